"""Points 14, 15 and 2 (h): reels after many calls of all kinds, beside a plain model and beside new reels."""

import unittest

from ringpostfix.errors import NoBalance, NoBeginning, RingError
from ringpostfix.reels import Reel
from reel_samples import EDITING, KINDS, LOGGED_KINDS, READY_KINDS, Stop, told

ODD_VALUES = [None, True, False, -1, 6, 24, 25, 99, "0", [0], (0,), {}, 10 ** 29]


class Numbers:
    """Numbers that look as if they came by chance, but are the same each time."""

    def __init__(self, seed):
        self.state = seed * 2654435761 % 2147483647 + 1

    def below(self, many):
        self.state = self.state * 48271 % 2147483647
        return self.state // 7 % many

    def one_of(self, values):
        return values[self.below(len(values))]


class Refused(Exception):
    """The model refuses a call; the arguments are the name of the error and its fields."""


def tried_beginnings(ring):
    """Return the beginnings, found by reading from each place."""
    found = []
    for place in range(len(ring)):
        values = 0
        for arity in ring[place:] + ring[:place]:
            values = values - arity + 1 if values >= arity else -99
        if values > 0:
            found.append(place)
    return tuple(found)


def is_number(value, many):
    return type(value) is int and 0 <= value < many


class Model:
    """A reel by the words of the document, as plainly as possible."""

    def __init__(self, ring, ready, logged):
        self.rings = [ring]
        self.edits = []
        self.start = None
        self.ready = ready
        self.log = [] if logged else None

    def note(self, name):
        if self.log is not None:
            self.log.append((name, len(self.edits)))
        return len(self.edits)

    def check_edit(self, word, place, arity):
        ring = self.rings[-1]
        if len(self.edits) == 60:
            raise Refused("TooManyEdits")
        if not is_number(place, len(ring) + (word == "insert")):
            raise Refused("NoPlace", place)
        if word != "remove" and not is_number(arity, 6):
            raise Refused("NoArity", arity)
        if word == "insert" and len(ring) == 24:
            raise Refused("TooLong", 24)
        if word == "remove" and len(ring) == 1:
            raise Refused("LastToken")

    def edit(self, word, place, arity=0):
        self.check_edit(word, place, arity)
        tokens = list(self.rings[-1])
        if word == "put":
            tokens[place] = arity
        elif word == "insert":
            tokens.insert(place, arity)
        else:
            tokens.pop(place)
        left = len(tokens) - sum(tokens)
        if self.ready and left <= 0:
            raise Refused("NoBalance", left)
        self.rings.append(tuple(tokens))
        self.edits.append((word, place) if word == "remove" else (word, place, arity))
        self.start = None

    def undo(self):
        if not self.edits:
            raise Refused("NothingToUndo")
        self.edits.pop()
        self.rings.pop()
        self.start = None

    def choose(self, value):
        starts = tried_beginnings(self.rings[-1])
        if value is not None and not (type(value) is int and value in starts):
            raise Refused("NoBeginning", value)
        before, self.start = self.start, value
        return before

    def run(self, batch, chosen, stop):
        """Do a batch; chosen tells after which edits the last beginning becomes start, stop when to raise Stop."""
        kept = (list(self.rings), list(self.edits), self.start)
        try:
            for index, edit in enumerate(batch):
                try:
                    self.edit(*edit)
                except Refused:
                    raise Refused("Rejected", index) from None
                starts = tried_beginnings(self.rings[-1])
                if index in chosen and starts:
                    self.start = starts[-1]
                if index == stop:
                    raise Refused("Stop")
        except Refused:
            self.rings, self.edits, self.start = kept
            raise

    def told(self):
        ring = self.rings[-1]
        answers = {
            "ring": ring,
            "version": len(self.edits),
            "beginnings": tried_beginnings(ring),
            "start": self.start,
            "edits": tuple(self.edits),
            "walk": list(enumerate(self.rings)),
            "ring_at": self.rings,
            "len": len(self.edits),
            "str": f"{len(ring)} tokens, balance {len(ring) - sum(ring)}, {len(self.edits)} edits",
        }
        if self.log is not None:
            answers["log"] = tuple(self.log)
        return answers


def some_edit(numbers, model):
    """Return an edit for the ring of the model; now and then one with a wrong argument."""
    word = numbers.one_of(EDITING)
    many = len(model.rings[-1])
    place = numbers.below(many + (word == "insert"))
    arity = numbers.one_of((0, 0, 0, 1, 1, 2, 3, 5))
    if numbers.below(12) == 0:
        place = numbers.one_of(ODD_VALUES)
    if numbers.below(12) == 0:
        arity = numbers.one_of(ODD_VALUES)
    return (word, place) if word == "remove" else (word, place, arity)


def some_batch(numbers, model):
    """Return a batch of edits with few errors: places are below the number of the tokens at first."""
    many = len(model.rings[-1])
    batch = []
    for _ in range(numbers.below(8)):
        if numbers.below(10) == 0:
            batch.append(some_edit(numbers, model))
        else:
            batch.append((numbers.one_of(("put", "insert")), numbers.below(many), numbers.below(2)))
    return batch


def outcome(function, *arguments):
    """Return what a call of a reel returns, or (name of its error, fields)."""
    try:
        return function(*arguments)
    except (RingError, LookupError, Stop) as error:
        return (type(error).__name__, *vars(error).values())


def model_outcome(function, *arguments):
    """Return what a call of the model returns, or (name of its error, fields)."""
    try:
        return function(*arguments)
    except Refused as error:
        return error.args


class HistoriesTest(unittest.TestCase):
    def one_call(self, numbers, reel, model):
        """Do one call on both, and return what each of them answers."""
        kind = numbers.below(10)
        if kind < 5:
            word, *arguments = some_edit(numbers, model)

            def edited():
                model.edit(word, *arguments)
                return model.note(word)

            return outcome(getattr(reel, word), *arguments), model_outcome(edited)
        if kind == 5:

            def undone():
                model.undo()
                return model.note("undo")

            return outcome(reel.undo), model_outcome(undone)
        if kind == 6:
            value = numbers.one_of(ODD_VALUES + list(range(24)))
            return outcome(reel.choose, value), model_outcome(model.choose, value)
        if kind == 7:
            starts = tried_beginnings(model.rings[-1])
            value = numbers.one_of(starts + (None,))
            return outcome(reel.choose, value), model_outcome(model.choose, value)
        return self.one_run(numbers, reel, model)

    def one_run(self, numbers, reel, model):
        batch = some_batch(numbers, model)
        chosen = {index for index in range(8) if numbers.below(3) == 0}
        stop = numbers.below(30)
        first = len(model.edits)

        def step(given):
            index = given.version - first - 1
            self.assertEqual(given.beginnings, tried_beginnings(given.ring))
            if index in chosen and given.beginnings:
                given.start = given.beginnings[-1]
            if index == stop:
                raise Stop()

        def ran():
            model.run(batch, chosen, stop)
            return model.note("run")

        return outcome(lambda: reel.run(batch, on_step=step)), model_outcome(ran)

    def check_beside_new(self, kind, reel, numbers):
        """Check the answers of a reel beside those of a new reel of its current ring."""
        new = kind(reel.ring)
        self.assertEqual([reel.ring, reel.beginnings], [new.ring, new.beginnings])
        self.assertTrue(reel == new and new == reel and Reel(reel.ring) == reel)
        self.assertEqual(str(reel).rsplit(",", 1)[0], str(new).rsplit(",", 1)[0])
        one, two = reel.copy(), new.copy()
        for value in list(range(-1, len(reel.ring) + 1)) + [None]:
            one.choose(None)
            self.assertEqual(outcome(one.choose, value), outcome(two.choose, value))
            two.choose(None)
        if reel.version < 60:
            for word in EDITING:
                arguments = (numbers.below(25), numbers.below(7))[:1 if word == "remove" else 2]
                one, two = reel.copy(), new.copy()
                answers = [outcome(getattr(one, word), *arguments), outcome(getattr(two, word), *arguments)]
                if type(answers[0]) is int:
                    self.assertEqual([answers[0] - reel.version, answers[1]], [1, 1])
                else:
                    self.assertEqual(answers[0], answers[1])
                self.assertEqual([one.ring, one.beginnings], [two.ring, two.beginnings])

    def check_history(self, kind, ring, seed, calls):
        numbers = Numbers(seed)
        reel, model = kind(ring), Model(ring, kind in READY_KINDS, kind in LOGGED_KINDS)
        twin = None
        seen = set()
        for _ in range(calls):
            answer, wanted = self.one_call(numbers, reel, model)
            self.assertEqual(repr(answer), repr(wanted))
            self.assertEqual(told(reel), model.told())
            seen.add(answer[0] if type(answer) is tuple else "done")
            if numbers.below(4) == 0:
                self.check_beside_new(kind, reel, numbers)
            if numbers.below(15) == 0:
                # Go on with a copy; what was copied must stay as it is.
                if twin is not None:
                    self.assertEqual(told(twin[0]), twin[1])
                twin = (reel, told(reel))
                reel = reel.copy()
        return seen

    def test_many_histories(self):
        for kind in KINDS:
            seen = set()
            for seed in range(40):
                ring = [(0,), (0, 0), (0, 0, 2, 0), (0,) * 12 + (1,) * 11, (0,) * 23][seed % 5]
                seen |= self.check_history(kind, ring, seed * 4 + KINDS.index(kind), 120)
            wanted = {
                "done", "TooManyEdits", "NoPlace", "NoArity", "TooLong", "LastToken", "NothingToUndo", "NoBeginning",
                "Rejected", "Stop",
            }
            self.assertEqual(seen, wanted | ({"NoBalance"} if kind in READY_KINDS else set()))

    def test_a_ready_reel_always_has_a_beginning(self):
        for kind in READY_KINDS:
            numbers = Numbers(5)
            reel = kind((0, 0, 1))
            for _ in range(400):
                try:
                    reel.put(numbers.below(3), numbers.below(3))
                except NoBalance as error:
                    self.assertLessEqual(error.balance, 0)
                except RingError:
                    reel.undo()
                self.assertGreater(len(reel.beginnings), 0)
                reel.choose(reel.beginnings[0])
                self.assertEqual(reel.start, reel.beginnings[0])

    def test_equal_calls_on_equal_reels_return_equal_results(self):
        for kind in KINDS:
            for seed in range(4):
                numbers, again = Numbers(seed), Numbers(seed)
                one, two = kind((0, 0, 0)), kind((0, 0, 0))
                model = Model((0, 0, 0), kind in READY_KINDS, kind in LOGGED_KINDS)
                for _ in range(60):
                    word, *arguments = some_edit(numbers, model)
                    self.assertEqual((word, *arguments), some_edit(again, model))
                    first, second = outcome(getattr(one, word), *arguments), outcome(getattr(two, word), *arguments)
                    self.assertEqual(first, second)
                    self.assertEqual(told(one), told(two))


class SmallHistoriesTest(unittest.TestCase):
    def test_no_beginning_of_an_earlier_ring(self):
        for kind in KINDS:
            reel = kind((0, 0, 2))
            self.assertEqual(reel.put(2, 1), 1)
            self.assertEqual(reel.choose(1), None)
            self.assertEqual(reel.undo(), 0)
            with self.assertRaises(NoBeginning):
                reel.choose(1)
            self.assertIsNone(reel.start)


if __name__ == "__main__":
    unittest.main()

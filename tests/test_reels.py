"""Points 14 and 15: reels, their edits and their queries. Batches stand in test_runs."""

import inspect
import itertools
import unittest

from ringpostfix.beginnings import beginnings
from ringpostfix.bounds import MAX_EDITS
from ringpostfix.changes import with_token
from ringpostfix.errors import (
    BadRing, BadText, LastToken, NoArity, NoBalance, NoBeginning, NoPlace, NothingToUndo, NoVersion, TooLong,
    TooManyEdits,
)
from ringpostfix.reels import LoggedReadyReel, LoggedReel, ReadyReel, Reel
from ringpostfix.rings import balance, ring_error
from reel_samples import EDITING, KINDS, LOGGED_KINDS, READY_KINDS, ReelCase, filled, told
import samples

RINGS = samples.short_rings()[::5] + samples.long_rings()
READY_RINGS = [ring for ring in RINGS if balance(ring) > 0]

# The examples of the document, word for word.
EXAMPLES = [
    (
        "from ringpostfix.reels import Reel",
        "str(Reel((0, 0, 2, 0)))",
        "'4 tokens, balance 2, 0 edits'",
    ),
    (
        "from ringpostfix.reels import Reel",
        "[Reel.read('0 0 2').ring, Reel.is_edit(('put', 5, None)), Reel.is_edit(('put', 5))]",
        "[(0, 0, 2), True, False]",
    ),
    (
        "from ringpostfix.reels import Reel\nreel = Reel((0, 0, 2, 0))\nreel.start = 3",
        "[reel.start, reel.put(2, 1), reel.start, reel.beginnings, reel.ring]",
        "[3, 1, None, (0, 1, 3), (0, 0, 1, 0)]",
    ),
    (
        "from ringpostfix.reels import Reel\nreel = Reel((0, 0, 2, 0))",
        "[reel.choose(0), reel.choose(3), reel.start]",
        "[None, 0, 3]",
    ),
    (
        "from ringpostfix.reels import Reel\nreel = Reel((0, 0, 2))",
        "[reel.insert(3, 0), reel.remove(0), reel.ring]",
        "[1, 2, (0, 2, 0)]",
    ),
    (
        "from ringpostfix.reels import Reel\nreel = Reel((0, 0, 2))",
        "[reel.remove(0), reel.undo(), reel.ring]",
        "[1, 0, (0, 0, 2)]",
    ),
    (
        "from ringpostfix.reels import Reel\nreel = Reel((0, 0, 2))",
        "reel.run([('put', 0, 1), ('remove', 9)])",
        "raises Rejected(1)",
    ),
    (
        "from ringpostfix.reels import Reel\nreel = Reel((0, 0, 2))",
        "[reel.put(2, 1), reel.ring_at(0), reel.edits(), list(reel.walk())]",
        "[1, (0, 0, 2), (('put', 2, 1),), [(0, (0, 0, 2)), (1, (0, 0, 1))]]",
    ),
    (
        "from ringpostfix.reels import Reel\nreel = Reel((0, 0))\nother = reel.copy()",
        "[reel.put(0, 1), reel == other, len(other), other == Reel((0, 0))]",
        "[1, False, 0, True]",
    ),
    (
        "from ringpostfix.reels import ReadyReel\nreel = ReadyReel((0, 0, 2))",
        "reel.put(0, 1)",
        "raises NoBalance(0)",
    ),
    (
        "from ringpostfix.reels import LoggedReel\nreel = LoggedReel((0, 0))",
        "[reel.run([('put', 0, 1), ('put', 1, 1)]), reel.undo(), reel.log]",
        "[2, 1, (('run', 2), ('undo', 1))]",
    ),
    (
        "from ringpostfix.reels import LoggedReadyReel, LoggedReel, ReadyReel\nreel = LoggedReadyReel.read('0 0 2')",
        "[isinstance(reel, ReadyReel), isinstance(reel, LoggedReel), reel.log]",
        "[True, True, ()]",
    ),
]


class ExamplesTest(unittest.TestCase):
    def test_examples(self):
        for source, expression, answer in EXAMPLES:
            with self.subTest(expression=expression):
                self.assertEqual(samples.shown(source, expression), answer)


class NewReelTest(unittest.TestCase):
    def test_new_reels(self):
        for kind in KINDS:
            for ring in READY_RINGS if kind in READY_KINDS else RINGS:
                reel = kind(ring)
                wanted = {
                    "ring": ring, "version": 0, "beginnings": beginnings(ring), "start": None, "edits": (),
                    "walk": [(0, ring)], "ring_at": [ring], "len": 0,
                    "str": f"{len(ring)} tokens, balance {balance(ring)}, 0 edits",
                }
                if kind in LOGGED_KINDS:
                    wanted["log"] = ()
                self.assertEqual(told(reel), wanted)

    def test_every_other_value_raises_bad_ring(self):
        wrong = samples.any_values() + [(0,) * 25, (0, 6), (0, 0, True), (0, -1, 9), [0] * 24, "0", Reel((0,))]
        for kind in KINDS:
            for value in wrong:
                before = repr(value)
                with self.subTest(kind=kind.__name__, value=before[:80]):
                    with self.assertRaises(BadRing) as caught:
                        kind(value)
                    self.assertIs(type(caught.exception), BadRing)
                    self.assertEqual(caught.exception.error, ring_error(value))
                    self.assertIsNotNone(caught.exception.error)
                    self.assertEqual(repr(value), before)

    def test_classes_and_class_values(self):
        for kind in KINDS:
            self.assertEqual([kind.MOST_EDITS, kind.WORDS], [60, ("put", "insert", "remove")])
            self.assertTrue(issubclass(kind, Reel))
        self.assertEqual(Reel.MOST_EDITS, MAX_EDITS)
        self.assertEqual(LoggedReadyReel.__bases__, (LoggedReel, ReadyReel))
        self.assertEqual([issubclass(ReadyReel, LoggedReel), issubclass(LoggedReel, ReadyReel)], [False, False])

    def test_positive_balance(self):
        for kind in READY_KINDS:
            for ring in RINGS:
                if balance(ring) <= 0:
                    with self.assertRaises(NoBalance) as caught:
                        kind(ring)
                    self.assertIs(type(caught.exception), NoBalance)
                    self.assertEqual(repr(caught.exception.balance), repr(balance(ring)))
            # The ring of a BadRing has no balance.
            with self.assertRaises(BadRing):
                kind((5, 5, 6))


class ReadTest(unittest.TestCase):
    def test_reel_of_the_class_with_the_ring(self):
        for kind in KINDS:
            for ring in READY_RINGS:
                reel = kind.read(" ".join(str(arity) for arity in ring))
                self.assertIs(type(reel), kind)
                self.assertEqual(told(reel), told(kind(ring)))
            self.assertIs(type(kind((0,)).read("0 0 2")), kind)
        self.assertEqual(Reel.read("5 5").ring, (5, 5))

    def test_bad_text(self):
        for kind in KINDS:
            wrong = [("", 0), ("0 6", 1), ("0  0", 1), ("0 0 2 ", 3), ("0 01", 1), ("0" + " 0" * 24, 24), ("5 x", 1)]
            wrong += [(value, None) for value in samples.any_values() if not isinstance(value, str)]
            for value, index in wrong:
                with self.subTest(kind=kind.__name__, value=repr(value)[:60]):
                    with self.assertRaises(BadText) as caught:
                        kind.read(value)
                    self.assertIs(type(caught.exception), BadText)
                    self.assertEqual(repr(caught.exception.index), repr(index))

    def test_no_balance_comes_after_bad_text(self):
        for kind in READY_KINDS:
            with self.assertRaises(NoBalance) as caught:
                kind.read("5 5")
            self.assertEqual(caught.exception.balance, -8)
            with self.assertRaises(BadText):
                kind.read("5 5 6")


class IsEditTest(unittest.TestCase):
    def check(self, value, answer):
        before = repr(value)
        for kind in KINDS:
            with self.subTest(kind=kind.__name__, value=before[:80]):
                self.assertIs(kind.is_edit(value), answer)
                self.assertIs(kind((0,)).is_edit(value), answer)
                self.assertEqual(repr(value), before)

    def test_words_and_numbers_of_arguments(self):
        for word in EDITING:
            for many in range(5):
                for item in (0, None, True, [], {}, "put", -1, 10 ** 29):
                    self.check((word,) + (item,) * many, many == (1 if word == "remove" else 2))

    def test_arguments_whatever_they_are(self):
        for value in samples.any_values():
            self.check(("put", value, value), True)
            self.check(("insert", 0, value), True)
            self.check(("remove", value), True)
            self.check((value, 0, 0), False)
            self.check((value, 0), False)
            self.check(value, False)

    def test_other_words_and_kinds(self):
        for word in ("undo", "run", "choose", "Put", "PUT", "put ", " put", "", "pu", "is_edit", b"put", ["put"], None):
            for many in range(4):
                self.check((word,) + (0,) * many, False)
        for value in (["put", 0, 0], ["remove", 0], "put", "remove", {"put": 0}, (("put", 0, 0),), ("put", (0, 0)), ()):
            self.check(value, False)
        self.check((Reel((0,)), 0, 0), False)
        self.check(("remove", Reel((0,))), True)


class PropertiesTest(ReelCase):
    def test_they_cannot_be_assigned(self):
        for kind in KINDS:
            reel = filled(kind, 2)
            names = ["ring", "version", "beginnings"] + (["log"] if kind in LOGGED_KINDS else [])
            before = told(reel)
            for name in names:
                for value in (None, getattr(reel, name), (0,), 0):
                    with self.assertRaises(AttributeError):
                        setattr(reel, name, value)
            self.assertEqual(told(reel), before)

    def test_kinds(self):
        for kind in KINDS:
            reel = filled(kind, 3)
            self.assertEqual([type(reel.ring), type(reel.version), type(reel.beginnings)], [tuple, int, tuple])
            self.assertEqual([type(reel.edits()), type(str(reel))], [tuple, str])


class StartTest(ReelCase):
    def test_each_beginning_and_none(self):
        for kind in KINDS:
            for ring in READY_RINGS[::4]:
                reel = kind(ring)
                before = None
                for value in beginnings(ring) + (None,) + beginnings(ring)[::-1]:
                    reel.start = value
                    self.assertEqual(repr(reel.start), repr(value))
                    self.assertEqual(reel.choose(before), value)
                    self.assertEqual(repr(reel.start), repr(before))
                    self.assertEqual(reel.choose(value), before)
                    before = value
                self.assertEqual([reel.version, reel.edits()], [0, ()])
                if kind in LOGGED_KINDS:
                    self.assertEqual(reel.log, ())

    def check_no_beginning(self, reel, value):
        before = told(reel)
        with self.subTest(value=repr(value)[:60]):
            with self.assertRaises(NoBeginning) as caught:
                reel.start = value
            self.assertIs(type(caught.exception), NoBeginning)
            self.assertIs(caught.exception.value, value)
            self.assertEqual(told(reel), before)
        self.check_error(reel, NoBeginning, {"value": value}, "choose", value)

    def test_every_other_value_raises_no_beginning_with_it(self):
        for kind in KINDS:
            for ring, start in (((0,), 0), ((0, 0), 1), ((0, 0, 2, 0), 3), ((2, 0, 0), None), ((0,) * 24, 23)):
                reel = kind(ring)
                reel.start = start
                wrong = [value for value in samples.any_values() if value is not None and type(value) is not int]
                for value in wrong + samples.values_that_are_no_place(len(ring)) + list(range(len(ring))):
                    if value is not None and not (type(value) is int and value in beginnings(ring)):
                        self.check_no_beginning(reel, value)
        for value in range(2):
            self.check_no_beginning(Reel((1, 1)), value)

    def test_bools_are_no_beginnings(self):
        reel = Reel((0, 0))
        for value in (True, False):
            self.check_no_beginning(reel, value)

    def test_each_edit_and_undo_makes_it_none(self):
        for kind in KINDS:
            for name, arguments in (("put", (1, 0)), ("insert", (0, 0)), ("remove", (1,)), ("undo", ())):
                reel = kind((0, 0, 0))
                reel.put(2, 0)
                for start in (0, 1):
                    reel.start = start
                    getattr(reel, name)(*arguments)
                    self.assertIsNone(reel.start)
                    if name == "undo":
                        reel.put(2, 0)

    def test_it_can_only_be_a_beginning_of_the_current_ring(self):
        reel = Reel((0, 0, 2))
        self.check_no_beginning(reel, 1)
        reel.put(2, 1)
        reel.start = 1
        reel.undo()
        self.check_no_beginning(reel, 1)

    def test_errors_leave_it(self):
        for kind in KINDS:
            reel = kind((0, 0, 0))
            reel.start = 2
            for name, arguments in (("put", (3, 0)), ("insert", (0, 6)), ("remove", (None,)), ("undo", ())):
                with self.assertRaises((ValueError, LookupError)):
                    getattr(reel, name)(*arguments)
                self.assertEqual(reel.start, 2)


class EditsTest(ReelCase):
    def test_put(self):
        for kind in KINDS:
            for ring in READY_RINGS[::9]:
                reel = kind(ring)
                done = []
                for place, arity in itertools.product(range(len(ring)), range(6)):
                    after = reel.ring[:place] + (arity,) + reel.ring[place + 1:]
                    if len(done) < 60 and (balance(after) > 0 or kind not in READY_KINDS):
                        done.append(("put", place, arity))
                        self.assertEqual(reel.put(place, arity), len(done))
                        self.assertEqual([reel.ring, reel.beginnings], [after, beginnings(after)])
                self.assertEqual(reel.edits(), tuple(done))

    def test_insert_and_remove(self):
        for kind in KINDS:
            for ring in [ring for ring in READY_RINGS[::9] if len(ring) < 23]:
                for place in range(len(ring) + 1):
                    reel = kind(ring)
                    once = with_token(ring, place, 0)
                    self.assertEqual([reel.insert(place, 0), reel.ring], [1, once])
                    self.assertEqual([reel.insert(place, 1), reel.ring], [2, with_token(once, place, 1)])
                    self.assertEqual([reel.remove(place + 1), reel.ring], [3, with_token(ring, place, 1)])
                    self.assertEqual(reel.edits(), (("insert", place, 0), ("insert", place, 1), ("remove", place + 1)))
                    self.assertEqual(reel.beginnings, beginnings(reel.ring))

    def test_put_of_the_same_arity_is_an_edit_too(self):
        for kind in KINDS:
            reel = kind((0, 0, 2))
            self.assertEqual([reel.put(2, 2), reel.put(2, 2), reel.version], [1, 2, 2])
            self.assertEqual([reel.ring, reel.undo(), len(reel)], [(0, 0, 2), 1, 1])

    def test_no_place(self):
        for kind in KINDS:
            for ring in ((0,), (0, 0), (0, 0, 2, 0), (0,) * 24):
                reel = kind(ring)
                for value in samples.values_that_are_no_place(len(ring)):
                    for arity in (0, 6, None):
                        self.check_error(reel, NoPlace, {"value": value}, "put", value, arity)
                    self.check_error(reel, NoPlace, {"value": value}, "remove", value)
                for value in samples.values_that_are_no_place(len(ring) + 1):
                    for arity in (0, 6, None):
                        self.check_error(reel, NoPlace, {"value": value}, "insert", value, arity)

    def test_no_arity(self):
        wrong = [value for value in samples.any_values() if not (type(value) is int and 0 <= value <= 5)]
        for kind in KINDS:
            for ring in ((0,), (0, 0, 2, 0), (0,) * 24):
                reel = kind(ring)
                for arity in wrong + [-1, 6, True, False, "0", [0], (0,)]:
                    for place in (0, len(ring) - 1):
                        self.check_error(reel, NoArity, {"value": arity}, "put", place, arity)
                        self.check_error(reel, NoArity, {"value": arity}, "insert", place, arity)
                    self.check_error(reel, NoArity, {"value": arity}, "insert", len(ring), arity)

    def test_too_long(self):
        for kind in KINDS:
            reel = kind((0,) * 23)
            self.assertEqual(reel.insert(23, 0), 1)
            for place in range(25):
                self.check_number(reel, TooLong, "limit", 24, "insert", place, 0)
            # Behind the errors of the arguments, before that of the balance.
            self.check_error(reel, NoArity, {"value": None}, "insert", 24, None)
            self.check_number(reel, NoPlace, "value", 25, "insert", 25, 0)
            full = kind((0,) + (1,) * 23)
            self.check_number(full, TooLong, "limit", 24, "insert", 0, 5)

    def test_last_token(self):
        for kind in KINDS:
            reel = kind((0, 0))
            reel.remove(0)
            self.check_error(reel, LastToken, {}, "remove", 0)
            self.check_number(reel, NoPlace, "value", 1, "remove", 1)
            self.check_error(kind((0,)), LastToken, {}, "remove", 0)
        self.check_error(Reel((5,)), LastToken, {}, "remove", 0)

    def test_59_60_and_61_edits(self):
        for kind in KINDS:
            reel = filled(kind, 59)
            self.assertEqual(reel.put(0, 0), 60)
            for name, arguments in (("put", (0, 0)), ("insert", (0, 0)), ("remove", (0,))):
                self.check_error(reel, TooManyEdits, {}, name, *arguments)
            # Before all other errors.
            for value in (None, 9, True, [0], "0"):
                self.check_error(reel, TooManyEdits, {}, "put", value, value)
                self.check_error(reel, TooManyEdits, {}, "insert", value, value)
                self.check_error(reel, TooManyEdits, {}, "remove", value)
            self.assertEqual([reel.undo(), reel.put(1, 0), len(reel.edits())], [59, 60, 60])
            self.check_error(reel, TooManyEdits, {}, "remove", 0)

    def test_no_balance(self):
        for kind in READY_KINDS:
            self.check_number(kind((0, 0, 2)), NoBalance, "balance", 0, "put", 0, 1)
            self.check_number(kind((0,)), NoBalance, "balance", -4, "put", 0, 5)
            self.check_number(kind((0,)), NoBalance, "balance", 0, "insert", 1, 2)
            self.check_number(kind((0,)), NoBalance, "balance", -3, "insert", 0, 5)
            self.check_number(kind((0, 1)), NoBalance, "balance", 0, "remove", 0)
            self.check_number(kind((0, 0, 2)), NoBalance, "balance", -2, "put", 2, 5)
            reel = kind((0, 0, 2))
            self.check_number(reel, NoPlace, "value", 3, "put", 3, 5)
            self.check_number(reel, NoArity, "value", 6, "put", 0, 6)
            self.check_number(reel, NoArity, "value", 6, "insert", 3, 6)
            self.assertEqual([reel.put(2, 1), reel.insert(0, 2), reel.remove(0)], [1, 2, 3])
        for kind in (Reel, LoggedReel):
            self.assertEqual([kind((0,)).put(0, 5), kind((0, 1)).remove(0), kind((0,)).insert(0, 5)], [1, 1, 1])


class UndoTest(ReelCase):
    def test_back_to_each_version(self):
        for kind in KINDS:
            for many in (1, 2, 7, 59, 60):
                reel = filled(kind, many)
                for version in range(many - 1, -1, -1):
                    self.assertEqual(reel.undo(), version)
                    answers = told(reel)
                    answers.pop("log", None)
                    wanted = told(filled(kind, version))
                    wanted.pop("log", None)
                    self.assertEqual(answers, wanted)
                self.check_error(reel, NothingToUndo, {}, "undo")

    def test_edits_after_undo(self):
        for kind in KINDS:
            reel = kind((0, 0, 0))
            self.assertEqual([reel.put(0, 1), reel.put(1, 1), reel.undo(), reel.remove(2)], [1, 2, 1, 2])
            self.assertEqual([reel.ring, reel.edits()], [(1, 0), (("put", 0, 1), ("remove", 2))])
            self.assertEqual(list(reel.walk()), [(0, (0, 0, 0)), (1, (1, 0, 0)), (2, (1, 0))])


class QueriesTest(ReelCase):
    def test_earlier_rings(self):
        for kind in KINDS:
            reel = kind((0, 0, 2, 0))
            rings = [reel.ring]
            for name, arguments in (
                ("put", (2, 1)), ("insert", (4, 0)), ("remove", (0,)), ("put", (0, 2)), ("insert", (0, 0)),
            ):
                getattr(reel, name)(*arguments)
                rings.append(reel.ring)
            self.assertEqual([reel.ring_at(version) for version in range(6)], rings)
            self.assertEqual(list(reel.walk()), list(enumerate(rings)))
            self.assertEqual(reel.edits(), (
                ("put", 2, 1), ("insert", 4, 0), ("remove", 0), ("put", 0, 2), ("insert", 0, 0),
            ))

    def test_no_version(self):
        for kind in KINDS:
            for many in (0, 1, 60):
                reel = filled(kind, many)
                for value in samples.any_values() + samples.values_that_are_no_place(many + 1):
                    if not (type(value) is int and 0 <= value <= many):
                        self.check_error(reel, NoVersion, {"value": value}, "ring_at", value)
                self.assertEqual(reel.ring_at(many), reel.ring)
            reel.undo()
            self.check_number(reel, NoVersion, "value", 60, "ring_at", 60)

    def test_walk_is_a_generator(self):
        for kind in KINDS:
            reel = filled(kind, 1)
            made = reel.walk()
            self.assertTrue(inspect.isgenerator(made))
            self.assertEqual([next(made), next(made)], [(0, (0, 0, 0)), (1, (1, 0, 0))])
            self.assertEqual(list(made), [])
            self.assertIs(type(next(reel.walk())), tuple)

    def test_results_do_not_change_later(self):
        for kind in KINDS:
            reel = filled(kind, 3)
            kept = [reel.ring, reel.beginnings, reel.edits(), reel.ring_at(1)]
            shown = repr(kept)
            reel.undo()
            reel.put(0, 1)
            reel.insert(0, 0)
            self.assertEqual(repr(kept), shown)


class CopyTest(ReelCase):
    def test_same_answers_of_the_same_class(self):
        for kind in KINDS:
            for many in (0, 1, 5, 60):
                reel = filled(kind, many)
                for start in (None,) + reel.beginnings:
                    reel.start = start
                    other = reel.copy()
                    self.assertIs(type(other), kind)
                    self.assertIsNot(other, reel)
                    self.assertEqual(told(other), told(reel))

    def test_both_are_independent(self):
        calls = (("put", (0, 1)), ("insert", (0, 0)), ("remove", (1,)), ("undo", ()), ("choose", (1,)),
                 ("run", ([("put", 2, 1)],)))
        for kind in KINDS:
            for name, arguments in calls:
                for turned in (False, True):
                    reel = filled(kind, 4)
                    other = reel.copy()
                    if turned:
                        reel, other = other, reel
                    before = told(other)
                    getattr(reel, name)(*arguments)
                    self.assertNotEqual(told(reel), before)
                    self.assertEqual(told(other), before)

    def test_a_copy_can_undo_all(self):
        for kind in KINDS:
            other = filled(kind, 7).copy()
            self.assertEqual([other.undo() for _ in range(7)], [6, 5, 4, 3, 2, 1, 0])
            self.assertEqual(other.ring, (0, 0, 0))
            self.check_error(other, NothingToUndo, {}, "undo")
            if kind in LOGGED_KINDS:
                self.assertEqual(len(other.log), 14)

    def test_a_copy_keeps_the_limits(self):
        for kind in KINDS:
            other = filled(kind, 60).copy()
            self.check_error(other, TooManyEdits, {}, "put", 0, 0)
        for kind in READY_KINDS:
            other = kind((0, 0, 2)).copy()
            self.check_number(other, NoBalance, "balance", 0, "put", 0, 1)

    def test_copies_of_copies(self):
        for kind in KINDS:
            reel = filled(kind, 3)
            other = reel.copy().copy()
            other.put(0, 0)
            again = other.copy()
            self.assertEqual([reel.version, other.version, again.version], [3, 4, 4])
            self.assertEqual(told(again), told(other))


class LenStrEqualTest(unittest.TestCase):
    def test_len_and_str(self):
        for kind in KINDS:
            for many in (0, 1, 2, 59, 60):
                self.assertEqual(len(filled(kind, many)), many)
            self.assertEqual(str(kind((0,))), "1 tokens, balance 1, 0 edits")
            reel = kind((0, 0))
            reel.put(0, 1)
            self.assertEqual(str(reel), "2 tokens, balance 1, 1 edits")
            reel.insert(0, 0)
            self.assertEqual(str(reel), "3 tokens, balance 2, 2 edits")
        self.assertEqual(str(Reel((5, 5))), "2 tokens, balance -8, 0 edits")

    def test_equal_rings_make_equal_reels(self):
        for first, second in itertools.product(KINDS, repeat=2):
            for ring, other in itertools.product(((0,), (0, 0), (0, 0, 2), (0, 0, 1), (0, 1)), repeat=2):
                self.assertIs(first(ring) == second(other), ring == other)
                self.assertIs(first(ring) != second(other), ring != other)
            reel, other = filled(first, 7), second(filled(first, 7).ring)
            other.choose(other.beginnings[0])
            self.assertIs(reel == other, True)
            other.put(0, 1 - other.ring[0])
            self.assertIs(reel == other, False)
            other.undo()
            self.assertIs(reel == other, True)

    def test_a_reel_is_equal_to_nothing_else(self):
        for kind in KINDS:
            reel = kind((0, 0, 2))
            for value in samples.any_values() + [(0, 0, 2), "0 0 2", str(reel), reel.ring, kind, object()]:
                self.assertIs(reel == value, False)
                self.assertIs(value == reel, False)
                self.assertIs(reel != value, True)

    def test_something_that_is_equal_to_all(self):
        class Everything:
            def __eq__(self, other):
                return True

        self.assertIs(Reel((0,)) == Everything(), False)


class LogTest(ReelCase):
    def test_a_row_for_each_call(self):
        for kind in LOGGED_KINDS:
            reel = kind((0, 0, 2, 0))
            reel.put(2, 1)
            reel.insert(0, 0)
            reel.remove(0)
            reel.undo()
            reel.run([("put", 0, 0), ("put", 1, 0), ("remove", 0)])
            reel.run(())
            reel.undo()
            self.assertEqual(reel.log, (
                ("put", 1), ("insert", 2), ("remove", 3), ("undo", 2), ("run", 5), ("run", 5), ("undo", 4),
            ))
            self.assertIs(type(reel.log), tuple)
            self.assertEqual({type(row) for row in reel.log}, {tuple})

    def test_other_calls_add_none(self):
        for kind in LOGGED_KINDS:
            reel = filled(kind, 3)
            before = reel.log
            self.assertEqual(before, (("put", 1), ("put", 2), ("put", 3)))
            reel.start = 1
            reel.choose(None)
            told(reel)
            reel.copy().put(0, 0)
            self.assertEqual(reel == reel.copy(), True)
            self.assertEqual(reel.log, before)

    def test_calls_that_fail_add_none(self):
        for kind in LOGGED_KINDS:
            reel = kind((0,))
            for name, arguments in (
                ("put", (1, 0)), ("put", (0, 6)), ("insert", (2, 0)), ("remove", (0,)), ("undo", ()), ("run", (5,)),
                ("run", ([5],)), ("run", ([("put", 0, 0), ("put", 1, 0)],)),
            ):
                with self.assertRaises((ValueError, LookupError)):
                    getattr(reel, name)(*arguments)
                self.assertEqual(reel.log, ())

    def test_a_log_is_kept_when_it_was_returned(self):
        for kind in LOGGED_KINDS:
            reel = filled(kind, 2)
            kept = reel.log
            reel.undo()
            self.assertEqual(kept, (("put", 1), ("put", 2)))

    def test_a_log_may_be_longer_than_the_edits(self):
        for kind in LOGGED_KINDS:
            reel = kind((0, 0))
            for _ in range(100):
                reel.put(0, 0)
                reel.undo()
            self.assertEqual(reel.log, (("put", 1), ("undo", 0)) * 100)

    def test_others_have_no_log(self):
        for kind in (Reel, ReadyReel):
            self.assertFalse(hasattr(kind((0,)), "log"))


if __name__ == "__main__":
    unittest.main()

"""Point 17: the console."""

import itertools
import unittest

from ringpostfix.consoles import Console
from ringpostfix.effects import effect_of
from ringpostfix.errors import Busy
from ringpostfix.links import free_places, taker
from ringpostfix.reels import ReadyReel, Reel
from ringpostfix.rings import balance, need
from reel_samples import KINDS, LOGGED_KINDS, READY_KINDS, filled, told
import samples

RINGS = samples.short_rings()[::13] + samples.long_rings()
UNKNOWN = "unknown command"

# The examples of the document, word for word.
EXAMPLES = [
    (
        "from ringpostfix.consoles import Console\nfrom ringpostfix.reels import Reel\n"
        "console = Console(Reel((0, 0, 2, 0)))",
        "[console.execute('beginnings'), console.execute('links'), console.execute('put 2 9'),"
        " console.execute('put 2 1'), console.execute('need 1')]",
        "['0 3', '2 2 - -', 'error NoArity', 'ok 1', '0']",
    ),
    (
        "from ringpostfix.consoles import Console\nfrom ringpostfix.reels import Reel\nconsole = Console(Reel((0,)))",
        "[console.execute('ring'), console.execute(5), console.history]",
        "['0', 'unknown command', (('ring', '0'), (None, 'unknown command'))]",
    ),
]


def joined(numbers):
    return " ".join(str(number) for number in numbers)


class ExamplesTest(unittest.TestCase):
    def test_examples(self):
        for source, expression, answer in EXAMPLES:
            with self.subTest(expression=expression):
                self.assertEqual(samples.shown(source, expression), answer)


class ConsoleCase(unittest.TestCase):
    def check(self, reel, line, answer):
        """Check the answer to a line that changes nothing."""
        before = told(reel)
        console = Console(reel)
        with self.subTest(reel=str(reel), line=repr(line)[:60]):
            self.assertEqual(console.execute(line), answer)
            self.assertEqual(console.history, ((line if isinstance(line, str) else None, answer),))
            self.assertEqual(told(reel), before)


class QueriesTest(ConsoleCase):
    def test_every_ring(self):
        for ring in RINGS:
            for kind in KINDS:
                if balance(ring) > 0 or kind not in READY_KINDS:
                    console = Console(kind(ring))
                    takers = [taker(ring, place) for place in range(len(ring))]
                    free = free_places(ring)
                    starts = sorted((place + 1) % len(ring) for place in free)
                    self.assertEqual(console.execute("ring"), joined(ring))
                    self.assertEqual(console.execute("beginnings"), joined(starts) or "none")
                    self.assertEqual(console.execute("free"), joined(free) or "none")
                    self.assertEqual(console.execute("links"), joined("-" if at is None else at for at in takers))
                    self.assertEqual(console.execute("effect"), joined(effect_of(ring)))
                    self.assertEqual(console.execute("start"), "none")
                    for place in range(len(ring)):
                        self.assertEqual(console.execute(f"need {place}"), str(need(ring, place)))

    def test_edges(self):
        self.check(Reel((0,)), "links", "-")
        self.check(Reel((1,)), "links", "0")
        self.check(Reel((1,)), "beginnings", "none")
        self.check(Reel((1,)), "free", "none")
        self.check(Reel((5,) * 24), "need 23", "97")
        self.check(Reel((5,) * 24), "effect", "97 1")
        self.check(Reel((0,) * 24), "free", joined(range(24)))
        self.check(Reel((1,) * 24), "links", joined(list(range(1, 24)) + [0]))
        self.check(Reel((2, 0, 0)), "effect", "2 3")

    def test_need_of_no_place(self):
        for ring, number in (((0,), 1), ((0,), 999), ((0,) * 24, 24), ((0, 0, 2), 3)):
            self.check(Reel(ring), f"need {number}", "error NoPlace")


class EditsTest(ConsoleCase):
    def test_the_console_works_on_this_very_reel(self):
        for kind in KINDS:
            reel = kind((0, 0, 2, 0))
            console = Console(reel)
            self.assertEqual(console.execute("put 2 1"), "ok 1")
            self.assertEqual([reel.ring, reel.edits()], [(0, 0, 1, 0), (("put", 2, 1),)])
            self.assertEqual(console.execute("insert 4 0"), "ok 2")
            self.assertEqual(console.execute("remove 0"), "ok 3")
            self.assertEqual([reel.ring, console.execute("ring")], [(0, 1, 0, 0), "0 1 0 0"])
            reel.put(0, 1)
            self.assertEqual([console.execute("ring"), console.execute("undo")], ["1 1 0 0", "ok 3"])
            self.assertEqual([reel.undo(), reel.undo(), console.execute("undo")], [2, 1, "ok 0"])
            if kind in LOGGED_KINDS:
                self.assertEqual(reel.log, (
                    ("put", 1), ("insert", 2), ("remove", 3), ("put", 4), ("undo", 3), ("undo", 2), ("undo", 1),
                    ("undo", 0),
                ))

    def test_two_consoles_on_one_reel(self):
        reel = Reel((0, 0))
        one, two = Console(reel), Console(reel)
        self.assertEqual([one.execute("put 0 1"), two.execute("ring"), two.execute("undo")], ["ok 1", "1 0", "ok 0"])
        self.assertEqual([one.history, len(two.history)], [(("put 0 1", "ok 1"),), 2])

    def test_ten_and_more_edits(self):
        console = Console(filled(Reel, 9))
        self.assertEqual([console.execute("put 0 0"), console.execute("put 0 0")], ["ok 10", "ok 11"])

    def test_errors(self):
        for kind in KINDS:
            reel = filled(kind, 4)
            for line, answer in (
                ("put 3 0", "NoPlace"), ("put 3 9", "NoPlace"), ("put 0 6", "NoArity"), ("put 0 999", "NoArity"),
                ("put 999 999", "NoPlace"), ("insert 4 0", "NoPlace"), ("insert 3 6", "NoArity"),
                ("remove 3", "NoPlace"), ("remove 999", "NoPlace"), ("start 2", "NoBeginning"),
                ("start 3", "NoBeginning"), ("start 999", "NoBeginning"), ("need 3", "NoPlace"),
            ):
                self.check(reel, line, "error " + answer)
            self.check(kind((0,)), "remove 0", "error LastToken")
            self.check(kind((0,)), "undo", "error NothingToUndo")
            self.check(kind((0,) * 24), "insert 24 0", "error TooLong")
            full = filled(kind, 60)
            for line in ("put 0 0", "put 9 9", "insert 0 0", "insert 99 99", "remove 0", "remove 9"):
                self.check(full, line, "error TooManyEdits")
        for kind in READY_KINDS:
            for line in ("put 0 1", "put 2 5", "insert 0 2"):
                self.check(kind((0, 0, 2)), line, "error NoBalance")
            self.check(kind((0, 1)), "remove 0", "error NoBalance")

    def test_while_on_step_runs(self):
        for kind in KINDS:
            reel = filled(kind, 4)
            console = Console(reel)

            def step(given):
                with self.assertRaises(Busy):
                    given.undo()
                for line in ("put 0 0", "put 9 9", "insert 0 0", "remove 0", "remove 99", "undo"):
                    self.check(given, line, "error Busy")
                for line, answer in (
                    ("ring", "0 0 1"), ("beginnings", "0 1"), ("free", "0 2"), ("need 2", "1"), ("start", "none"),
                    ("start 1", "ok"), ("start", "1"), ("put 0 0", "error Busy"), ("start", "1"),
                ):
                    self.assertEqual(console.execute(line), answer)

            self.assertEqual(reel.run([("put", 0, 0)], on_step=step), 5)
            self.assertEqual([console.execute("start"), console.execute("undo"), console.execute("start")], [
                "1", "ok 4", "none",
            ])
            self.assertEqual(len(console.history), 12)


class StartTest(ConsoleCase):
    def test_start(self):
        for kind in KINDS:
            reel = kind((0, 0, 2, 0))
            console = Console(reel)
            for line, answer in (
                ("start", "none"), ("start 3", "ok"), ("start", "3"), ("start 1", "error NoBeginning"), ("start", "3"),
                ("start 0", "ok"), ("start", "0"), ("put 2 9", "error NoArity"), ("start", "0"), ("put 2 2", "ok 1"),
                ("start", "none"), ("start none", UNKNOWN), ("start 3", "ok"), ("undo", "ok 0"), ("start", "none"),
            ):
                self.assertEqual(console.execute(line), answer, line)
            self.assertEqual([console.execute("start 3"), reel.start, type(reel.start)], ["ok", 3, int])


WORDS = {"put": 2, "insert": 2, "remove": 1, "undo": 0, "ring": 0, "beginnings": 0, "free": 0, "links": 0, "effect": 0}


class UnknownTest(ConsoleCase):
    def test_numbers_of_words(self):
        for word, wanted in list(WORDS.items()) + [("need", 1)]:
            for many in range(5):
                if many != wanted:
                    self.check(filled(Reel, 4), " ".join([word] + ["0"] * many), UNKNOWN)
        for many in (2, 3, 4):
            self.check(filled(Reel, 4), " ".join(["start"] + ["0"] * many), UNKNOWN)
        for many in range(5):
            self.check(filled(Reel, 4), " ".join(["0"] * many), UNKNOWN)

    def test_words_that_are_no_numbers(self):
        wrong = [
            "", "-1", "-0", "+1", "00", "01", "007", "000", "1.0", "1e1", "0x1", "1_0", "a", "x", "1x", "x1",
            "none", "None", "True",
            "0,", "(0)", "0\n", "\n0", "\t0", "1000", "9999", "0000", "10" * 20, "\u0661", "\uff11", "\u00b2", "-",
        ]
        for word in wrong:
            for line in (
                f"put {word} 0", f"put 0 {word}", f"insert {word} 0", f"insert 0 {word}", f"remove {word}",
                f"need {word}", f"start {word}",
            ):
                self.check(filled(Reel, 4), line, UNKNOWN)

    def test_numbers_of_three_and_of_four_digits(self):
        reel = Reel((0,) * 24)
        self.check(reel, "need 100", "error NoPlace")
        self.check(reel, "need 999", "error NoPlace")
        self.check(reel, "need 1000", UNKNOWN)
        self.check(reel, "put 0 100", "error NoArity")
        self.check(reel, "put 0 1000", UNKNOWN)
        self.check(reel, "put 1000 0", UNKNOWN)
        self.check(reel, "start 999", "error NoBeginning")
        self.check(reel, "start 1000", UNKNOWN)
        self.check(reel, "remove 1000", UNKNOWN)
        self.check(reel, "need 23", "0")
        self.check(reel, "need 023", UNKNOWN)

    def test_other_spaces(self):
        for line in ("ring", "undo", "start 0", "put 0 0", "need 1"):
            for changed in (
                " " + line, line + " ", line + "\n", "\n" + line, line.replace(" ", "  "), line.replace(" ", "\t"),
                line.replace(" ", "\n"), line.replace(" ", ""), line.upper(), line.title(), line + "\t", line + ";",
            ):
                if changed != line:
                    self.check(filled(Reel, 4), changed, UNKNOWN)

    def test_other_words(self):
        for word in (
            "", " ", "help", "run", "choose", "read", "version", "edits", "log", "copy", "walk", "quit", "link",
            "needs",
            "rings", "execute", "history", "none", "ok", "puts", "__init__", "ring_at",
        ):
            for line in (word, word + " 0", word + " 0 0"):
                self.check(filled(Reel, 4), line, UNKNOWN)

    def test_other_values(self):
        for kind in KINDS:
            more = [("ring",), ["ring"], {"ring": 0}, b"ring", Reel((0,)), 0, ("put", 0, 0)]
            for value in samples.any_values() + more:
                self.check(filled(kind, 2), value, UNKNOWN)


class HistoryTest(unittest.TestCase):
    def test_pairs_in_order(self):
        for kind in KINDS:
            console = Console(kind((0, 0)))
            self.assertEqual(console.history, ())
            lines = ["ring", None, "put 0 1", "", "put 9 9", ["ring"], "undo", "no", "undo", 5]
            wanted = []
            for line in lines:
                answer = console.execute(line)
                wanted.append((line if isinstance(line, str) else None, answer))
                self.assertEqual(console.history, tuple(wanted))
            self.assertEqual([answer for line, answer in wanted], [
                "0 0", UNKNOWN, "ok 1", UNKNOWN, "error NoPlace", UNKNOWN, "ok 0", UNKNOWN, "error NothingToUndo",
                UNKNOWN,
            ])

    def test_19_20_and_21_lines(self):
        console = Console(Reel((0, 0)))
        wanted = []
        for number in range(60):
            line = f"need {number}" if number % 3 else number
            wanted.append((line if number % 3 else None, console.execute(line)))
            self.assertEqual(console.history, tuple(wanted[-20:]))
            self.assertEqual(len(console.history), min(20, number + 1))

    def test_kinds(self):
        console = Console(Reel((0,)))
        console.execute("ring")
        self.assertEqual([type(console.history), type(console.history[0])], [tuple, tuple])

    def test_it_cannot_be_assigned(self):
        console = Console(Reel((0,)))
        with self.assertRaises(AttributeError):
            console.history = ()
        self.assertEqual(console.history, ())

    def test_a_history_is_kept_when_it_was_returned(self):
        console = Console(Reel((0,)))
        console.execute("ring")
        kept = console.history
        console.execute("free")
        self.assertEqual(kept, (("ring", "0"),))


class AgainTest(unittest.TestCase):
    def test_equal_lines_on_equal_reels(self):
        lines = ["put 0 1", "ring", "start 1", "start", "remove 0", "undo", "need 1", "undo", "undo", "free", "links"]
        for first, second in itertools.product(KINDS, repeat=2):
            one, two = Console(first((0, 0, 0))), Console(second((0, 0, 0)))
            self.assertEqual([one.execute(line) for line in lines], [two.execute(line) for line in lines])
            self.assertEqual(one.history, two.history)

    def test_a_console_of_a_copy(self):
        reel = ReadyReel((0, 0))
        console = Console(reel.copy())
        self.assertEqual([console.execute("put 0 1"), console.execute("ring"), reel.ring], ["ok 1", "1 0", (0, 0)])


if __name__ == "__main__":
    unittest.main()

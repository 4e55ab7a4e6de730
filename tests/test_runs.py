"""Point 14: batches of edits, and what happens while on_step runs."""

import itertools
import unittest

from ringpostfix.beginnings import beginnings
from ringpostfix.errors import (
    BadEdit, BadEdits, Busy, NoArity, NoBalance, NoBeginning, NoPlace, NothingToUndo, Rejected, RingError, TooManyEdits,
)
from ringpostfix.reels import Reel
from ringpostfix.rings import need
from reel_samples import KINDS, LOGGED_KINDS, READY_KINDS, HardStop, ReelCase, Stop, filled, told
import samples

PUTS = [("put", 0, 1), ("put", 0, 0), ("put", 1, 1)]
# An edit of each kind that fails on a ring of three tokens, with the error of the call by itself.
FAILING = [
    ("put", 9, 0), ("put", None, 0), ("put", True, 0), ("put", 0, 6), ("put", 0, None), ("insert", -1, 0),
    ("insert", 30, 0), ("insert", 0, "0"), ("remove", 9), ("remove", [0]), ("remove", None),
]


class RunTest(ReelCase):
    def test_edits_in_order(self):
        for kind in KINDS:
            for batch in ([], PUTS[:1], PUTS, [("insert", 3, 0), ("remove", 0), ("put", 2, 1), ("insert", 0, 0)]):
                for many in (0, 4):
                    for made in (list, tuple):
                        reel, other = filled(kind, many), filled(kind, many)
                        version = reel.run(made(batch))
                        for word, *arguments in batch:
                            getattr(other, word)(*arguments)
                        self.assertEqual([version, type(version)], [many + len(batch), int])
                        one, two = told(reel), told(other)
                        one.pop("log", None)
                        two.pop("log", None)
                        self.assertEqual(one, two)

    def test_batches_of_0_20_and_21_edits(self):
        for kind in KINDS:
            for made in (list, tuple):
                reel = filled(kind, 2)
                self.assertEqual(reel.run(made([])), 2)
                self.assertEqual(reel.run(made([("put", 1, 0)] * 20)), 22)
                self.check_error(reel, BadEdits, {}, "run", made([("put", 1, 0)] * 21))
                self.assertEqual(reel.run(made([("put", 1, 0)] * 19)), 41)

    def test_each_edit_can_be_undone_by_itself(self):
        for kind in KINDS:
            reel = kind((0, 0, 0))
            reel.run(PUTS)
            self.assertEqual([reel.undo(), reel.ring], [2, (0, 0, 0)])
            self.assertEqual([reel.undo(), reel.ring], [1, (1, 0, 0)])
            self.assertEqual([reel.run([("remove", 0)]), reel.ring], [2, (0, 0)])
            self.assertEqual(reel.edits(), (("put", 0, 1), ("remove", 0)))

    def test_what_is_no_batch(self):
        for kind in KINDS:
            reel = filled(kind, 2)
            for value in samples.any_values() + [{0: ("put", 0, 0)}, "put", b"put", reel, Reel]:
                if not isinstance(value, (list, tuple)) or len(value) > 20:
                    self.check_error(reel, BadEdits, {}, "run", value)

    def test_length_comes_before_the_items(self):
        for kind in KINDS:
            reel = filled(kind, 2)
            for batch in ([None] * 21, (5,) * 21, [("put",)] * 1000, ([],) * 21):
                self.check_error(reel, BadEdits, {}, "run", batch)

    def test_first_item_that_is_no_edit(self):
        wrong = samples.any_values() + [("put", 0), ("remove",), ("undo",), ("put", 0, 0, 0), ["put", 0, 0], ("x", 0)]
        for kind in KINDS:
            reel = filled(kind, 2)
            for item in wrong:
                for index in (0, 1, 19):
                    batch = [("put", 0, 0)] * 20
                    batch[index] = item
                    self.check_number(reel, BadEdit, "index", index, "run", batch)
                    self.check_number(reel, BadEdit, "index", index, "run", tuple(batch))
                batch = [("put", 0, 0), item, ("put", 0, 0), item]
                self.check_number(reel, BadEdit, "index", 1, "run", batch)

    def test_items_that_are_no_edits_come_before_edits_that_fail(self):
        for kind in KINDS:
            reel = filled(kind, 60)
            self.check_number(reel, BadEdit, "index", 1, "run", [("put", 9, 9), ("put", 0)])
            seen = []
            self.check_number(reel, BadEdit, "index", 2, "run", [PUTS[0], PUTS[1], 5], on_step=seen.append)
            self.check_error(reel, BadEdits, {}, "run", None, on_step=seen.append)
            self.assertEqual(seen, [])

    def test_an_edit_that_fails(self):
        for kind in KINDS:
            for edit in FAILING:
                for index in (0, 1, 2):
                    reel = filled(kind, 4)
                    reel.start = 1
                    batch = PUTS[:index] + [edit] + PUTS
                    self.check_number(reel, Rejected, "index", index, "run", batch)
                    self.check_number(reel, Rejected, "index", index, "run", tuple(batch))
                    # The reel can go on as if nothing had been.
                    self.assertEqual([reel.undo(), reel.run(PUTS), reel.put(1, 0)], [3, 6, 7])

    def test_first_edit_that_fails(self):
        for kind in KINDS:
            self.check_number(filled(kind, 1), Rejected, "index", 1, "run", [PUTS[0], FAILING[0], PUTS[1], FAILING[3]])

    def test_last_token_and_too_long(self):
        for kind in KINDS:
            self.check_number(kind((0, 0)), Rejected, "index", 1, "run", [("remove", 0), ("remove", 0)])
            self.check_number(kind((0,) * 23), Rejected, "index", 1, "run", [("insert", 0, 0), ("insert", 0, 0)])

    def test_too_many_edits(self):
        for kind in KINDS:
            for many in (40, 41, 58, 59, 60):
                reel = filled(kind, many)
                batch = [("put", 1, 0)] * 20
                if many == 40:
                    self.assertEqual(reel.run(batch), 60)
                else:
                    self.check_number(reel, Rejected, "index", 60 - many, "run", batch)
            reel = filled(kind, 60)
            self.check_number(reel, Rejected, "index", 0, "run", [("put", 9, 9)])
            self.assertEqual(reel.run([]), 60)

    def test_no_balance(self):
        for kind in KINDS:
            reel = kind((0, 0, 2))
            batch = [("put", 1, 0), ("put", 0, 1), ("put", 0, 0)]
            if kind in READY_KINDS:
                self.check_number(reel, Rejected, "index", 1, "run", batch)
                self.check_number(reel, NoBalance, "balance", 0, "put", 0, 1)
            else:
                self.assertEqual(reel.run(batch), 3)

    def test_an_empty_batch_leaves_start(self):
        for kind in KINDS:
            reel = filled(kind, 4)
            reel.start = 1
            seen = []
            self.assertEqual([reel.run([]), reel.run((), on_step=seen.append), reel.start, seen], [4, 4, 1, []])

    def test_a_batch_makes_start_none(self):
        for kind in KINDS:
            reel = filled(kind, 4)
            reel.start = 1
            self.assertEqual([reel.run([("put", 2, 1)]), reel.start], [5, None])

    def test_on_step_is_passed_by_keyword(self):
        with self.assertRaises(TypeError):
            Reel((0,)).run([], None)
        self.assertEqual(Reel((0,)).run([("put", 0, 0)], on_step=None), 1)


class StepTest(ReelCase):
    def test_it_sees_this_reel_and_the_edits_done_so_far(self):
        batch = [("put", 0, 1), ("insert", 3, 0), ("remove", 1), ("put", 2, 0)]
        for kind in KINDS:
            reel, other = filled(kind, 2), filled(kind, 2)
            seen = []

            def step(given):
                self.assertIs(given, reel)
                seen.append(told(given))
                self.assertEqual(given, kind(given.ring))
                return [None, Stop, False, 7][len(seen) - 1]

            log = other.log if kind in LOGGED_KINDS else None
            self.assertEqual(reel.run(batch, on_step=step), 6)
            wanted = []
            for word, *arguments in batch:
                getattr(other, word)(*arguments)
                wanted.append(told(other))
                if kind in LOGGED_KINDS:
                    wanted[-1]["log"] = log
            self.assertEqual(seen, wanted)

    def test_calls_up_to_the_edit_that_fails(self):
        for kind in KINDS:
            for index in range(4):
                reel = filled(kind, 2)
                seen = []
                batch = (PUTS[:index] + [("put", 9, 0)] + PUTS)[:20]
                self.check_number(
                    reel, Rejected, "index", index, "run", batch, on_step=lambda given: seen.append(given.version)
                )
                self.assertEqual(seen, list(range(3, 3 + index)))

    def test_not_called_before_a_version_is_done(self):
        for kind in KINDS:
            seen = []
            reel = kind((0, 0))
            reel.run([("put", 0, 1)], on_step=lambda given: seen.append((given.version, given.ring)))
            self.assertEqual(seen, [(1, (1, 0))])

    def test_any_function_of_one_argument(self):
        class Counter:
            def __init__(self):
                self.versions = []

            def __call__(self, reel):
                self.versions.append(len(reel))

        counter = Counter()
        Reel((0, 0)).run([("put", 0, 0)] * 3, on_step=counter)
        self.assertEqual(counter.versions, [1, 2, 3])


class BusyTest(ReelCase):
    def test_all_calls_that_would_change_the_ring(self):
        calls = [
            ("put", (0, 0)), ("insert", (0, 0)), ("remove", (0,)), ("undo", ()), ("run", ([],)), ("run", (PUTS,)),
            # Busy comes before all other errors.
            ("put", (None, None)), ("put", (9, 9)), ("insert", (True, True)), ("insert", (99, 0)), ("remove", ([],)),
            ("run", (None,)), ("run", ([5],)), ("run", ([("put", 9, 9)],)), ("run", ([("put", 0, 0)] * 30,)),
        ]
        for kind in KINDS:
            for many in (0, 59):
                reel = filled(kind, many)

                def step(given):
                    given.start = given.beginnings[0]
                    for name, arguments in calls:
                        self.check_error(given, Busy, {}, name, *arguments)
                    self.check_error(given, Busy, {}, "run", PUTS, on_step=step)

                self.assertEqual(reel.run([("put", 1, 0)], on_step=step), many + 1)
                self.assertEqual(reel.start, reel.beginnings[0])
                # Afterwards the reel is not busy.
                self.assertEqual(reel.undo(), many)
                self.assertEqual(reel.run([("put", 1, 0)]), many + 1)

    def test_busy_comes_before_too_many_edits(self):
        for kind in KINDS:
            reel = filled(kind, 59)
            seen = []

            def step(given):
                seen.append(given.version)
                for name, arguments in (("put", (0, 0)), ("insert", (0, 0)), ("remove", (0,)), ("run", (PUTS,))):
                    self.check_error(given, Busy, {}, name, *arguments)

            reel.run([("put", 1, 0)], on_step=step)
            self.assertEqual(seen, [60])
            self.check_error(reel, TooManyEdits, {}, "put", 0, 0)

    def test_last_token_and_no_balance_come_behind(self):
        for kind in KINDS:
            reel = kind((0, 0))

            def step(given):
                self.check_error(given, Busy, {}, "remove", 0)
                self.check_error(given, Busy, {}, "put", 0, 5)

            self.assertEqual(reel.run([("remove", 0)], on_step=step), 1)

    def test_busy_that_nobody_catches(self):
        for kind in KINDS:
            for name, arguments in (("put", (0, 0)), ("undo", ()), ("run", ([],))):
                reel = filled(kind, 2)
                reel.start = 1
                self.check_error(
                    reel, Busy, {}, "run", PUTS, on_step=lambda given: getattr(given, name)(*arguments)
                )
                self.assertEqual(reel.run(PUTS), 5)

    def test_not_busy_after_an_error(self):
        for kind in KINDS:
            reel = filled(kind, 2)
            for batch in (PUTS + [FAILING[0]], PUTS + [5], None):
                with self.assertRaises(RingError):
                    reel.run(batch, on_step=len)
                self.assertEqual([reel.put(1, 0), reel.undo(), reel.run([])], [3, 2, 2])

    def test_other_reels_are_not_busy(self):
        for kind in KINDS:
            reel, other = filled(kind, 2), filled(kind, 2)

            def step(given):
                other.put(1, 0)
                other.run([("put", 1, 0)], on_step=inner)

            def inner(given):
                self.assertIs(given, other)
                self.check_error(reel, Busy, {}, "undo")
                self.check_error(other, Busy, {}, "undo")

            self.assertEqual([reel.run([("put", 1, 0)] * 2, on_step=step), other.version], [4, 6])
            self.assertEqual([reel.undo(), other.undo()], [3, 5])


class ExceptionTest(ReelCase):
    def check_exception(self, kind, error, at):
        """Check that an exception of on_step at a call passes through, and that nothing changes."""
        reel = filled(kind, 4)
        reel.start = 1
        before = told(reel)
        seen = []

        def step(given):
            seen.append(given.version)
            given.start = given.beginnings[0]
            if len(seen) == at:
                raise error

        with self.assertRaises(type(error)) as caught:
            reel.run(PUTS, on_step=step)
        self.assertIs(caught.exception, error)
        self.assertEqual(seen, list(range(5, 5 + at)))
        self.assertEqual(told(reel), before)
        self.assertEqual(reel.start, 1)
        self.assertEqual([reel.put(2, 1), reel.undo(), reel.run(PUTS)], [5, 4, 7])

    def test_each_exception_at_each_call(self):
        for kind in KINDS:
            for made in (Stop, ValueError, LookupError, KeyError, TypeError, StopIteration, RingError, HardStop,
                         KeyboardInterrupt, GeneratorExit):
                for at in (1, 2, 3):
                    self.check_exception(kind, made("because"), at)

    def test_errors_of_the_package_are_not_taken_for_those_of_an_edit(self):
        for kind in KINDS:
            for error in (NoPlace(5), NoArity(9), TooManyEdits(), NoBalance(0), NoBeginning(2), Rejected(7), Busy(),
                          BadEdit(3), BadEdits(), NothingToUndo()):
                for at in (1, 3):
                    self.check_exception(kind, error, at)
            reel = filled(kind, 2)
            self.check_number(reel, NoPlace, "value", 99, "run", PUTS, on_step=lambda given: need(given.ring, 99))

    def test_a_wrong_start_in_it(self):
        for kind in KINDS:
            reel = kind((0, 0, 0))
            self.check_error(
                reel, NoBeginning, {"value": "x"}, "run", PUTS, on_step=lambda given: given.choose("x")
            )

    def test_a_function_that_cannot_be_called_so(self):
        for kind in KINDS:
            reel = filled(kind, 2)
            before = told(reel)
            for wrong in (5, lambda: None, lambda first, second: None):
                with self.assertRaises(TypeError):
                    reel.run(PUTS, on_step=wrong)
                self.assertEqual(told(reel), before)
                self.assertEqual([reel.run(PUTS), reel.undo(), reel.undo(), reel.undo()], [5, 4, 3, 2])
                before = told(reel)


class StartInStepTest(ReelCase):
    def test_the_next_edit_makes_it_none(self):
        for kind in KINDS:
            for assigned in (False, True):
                reel = filled(kind, 4)
                reel.start = 1
                seen = []

                def step(given):
                    seen.append(given.start)
                    if assigned:
                        given.start = given.beginnings[-1]
                    else:
                        self.assertIsNone(given.choose(given.beginnings[-1]))
                    seen.append(given.start)

                reel.run([("put", 2, 1), ("put", 2, 0)], on_step=step)
                self.assertEqual(seen, [None, 1, None, 2])
                # What the last call assigned stays.
                self.assertEqual([reel.start, reel.put(0, 0), reel.start], [2, 7, None])

    def test_only_beginnings_of_the_ring_at_that_time(self):
        for kind in KINDS:
            reel = kind((0, 0, 0, 0))

            def step(given):
                for value in list(range(-1, 6)) + [True, "0", [0]]:
                    if type(value) is int and value in beginnings(given.ring):
                        given.start = value
                    else:
                        self.check_error(given, NoBeginning, {"value": value}, "choose", value)
                given.start = None

            reel.run([("put", 1, 2), ("remove", 0), ("insert", 0, 0)], on_step=step)
            self.assertIsNone(reel.start)

    def test_errors_give_the_start_before_the_call(self):
        for kind in KINDS:
            for before in (None, 0, 1):
                reel = filled(kind, 4)
                reel.start = before

                def step(given):
                    given.start = given.beginnings[0]

                self.check_number(reel, Rejected, "index", 3, "run", PUTS + [FAILING[0]], on_step=step)
                self.assertEqual(reel.start, before)

    def test_busy_leaves_what_was_assigned(self):
        for kind in KINDS:
            reel = filled(kind, 4)

            def step(given):
                given.start = 1
                self.check_error(given, Busy, {}, "undo")
                self.assertEqual(given.start, 1)

            reel.run([("put", 2, 1)], on_step=step)
            self.assertEqual(reel.start, 1)


class CopyInStepTest(ReelCase):
    def test_copies_have_the_edits_so_far_and_are_not_busy(self):
        for kind in KINDS:
            reel = filled(kind, 2)
            copies = []

            def step(given):
                given.start = given.beginnings[0]
                other = given.copy()
                self.assertIs(type(other), kind)
                self.assertEqual(told(other), told(given))
                before = told(given)
                # The copy can do what the reel cannot do now.
                self.assertEqual(other.undo(), given.version - 1)
                self.assertEqual(other.run(PUTS, on_step=len), given.version + 2)
                self.assertEqual(told(given), before)
                copies.append(given.copy())

            self.assertEqual(reel.run(PUTS, on_step=step), 5)
            self.assertEqual([other.version for other in copies], [3, 4, 5])
            for many, other in enumerate(copies):
                self.assertEqual(other.edits(), reel.edits()[:3 + many])
                self.assertEqual(other.ring, reel.ring_at(3 + many))
                self.assertEqual(other.start, other.beginnings[0])
                if kind in LOGGED_KINDS:
                    self.assertEqual(other.log, (("put", 1), ("put", 2)))
                self.assertEqual([other.undo() for _ in range(3 + many)], list(range(2 + many, -1, -1)))
                self.assertEqual(other.ring, (0, 0, 0))
            self.assertEqual(reel.version, 5)

    def test_copies_stay_when_the_batch_is_undone(self):
        for kind in KINDS:
            reel = filled(kind, 2)
            copies = []
            self.check_number(
                reel, Rejected, "index", 3, "run", PUTS + [FAILING[0]],
                on_step=lambda given: copies.append(given.copy()),
            )
            self.assertEqual([other.version for other in copies], [3, 4, 5])
            self.assertEqual(copies[2].edits()[2:], tuple(PUTS))


class LaterChangesTest(ReelCase):
    def test_changes_of_the_list_in_on_step(self):
        for kind in KINDS:
            for change in (
                list.clear, list.pop, lambda batch: batch.append(("remove", 0)), lambda batch: batch.append(5),
                lambda batch: batch.__setitem__(slice(None), [("put", 9, 9)] * 30), list.reverse,
            ):
                batch = list(PUTS)
                reel = filled(kind, 2)
                calls = []

                def step(given):
                    calls.append(given.version)
                    if len(batch) > 0:
                        change(batch)

                self.assertEqual(reel.run(batch, on_step=step), 5)
                self.assertEqual([reel.edits()[2:], calls], [tuple(PUTS), [3, 4, 5]])

    def test_changes_of_the_list_afterwards(self):
        for kind in KINDS:
            batch = list(PUTS)
            reel = filled(kind, 2)
            reel.run(batch)
            before = told(reel)
            batch.clear()
            self.assertEqual(told(reel), before)

    def test_the_list_is_not_changed(self):
        for kind in KINDS:
            for batch in (list(PUTS), PUTS + [FAILING[0]], PUTS + [5]):
                before = repr(batch)
                try:
                    filled(kind, 2).run(batch)
                except RingError:
                    pass
                self.assertEqual(repr(batch), before)


class LogOfRunsTest(ReelCase):
    def test_one_row_for_a_batch(self):
        for kind in LOGGED_KINDS:
            reel = kind((0, 0, 0))
            seen = []
            reel.run(PUTS, on_step=lambda given: seen.append(given.log))
            self.assertEqual([reel.log, seen], [(("run", 3),), [(), (), ()]])
            reel.run([])
            self.assertEqual(reel.log, (("run", 3), ("run", 3)))

    def test_no_row_for_one_that_fails(self):
        for kind in LOGGED_KINDS:
            reel = filled(kind, 1)
            for batch in (PUTS + [FAILING[0]], PUTS + [5], None, [("put", 0, 0)] * 21):
                with self.assertRaises(RingError):
                    reel.run(batch)
            with self.assertRaises(ZeroDivisionError):
                reel.run(PUTS, on_step=lambda given: 1 // 0)
            self.assertEqual(reel.log, (("put", 1),))

    def test_busy_calls_add_none(self):
        for kind in LOGGED_KINDS:
            reel = kind((0, 0, 0))

            def step(given):
                for name, arguments in (("put", (0, 0)), ("undo", ()), ("run", ([],))):
                    self.check_error(given, Busy, {}, name, *arguments)

            reel.run(PUTS, on_step=step)
            self.assertEqual(reel.log, (("run", 3),))


class AllKindsAgreeTest(unittest.TestCase):
    def test_the_same_batches(self):
        edits = [("put", 0, 1), ("put", 2, 0), ("insert", 3, 0), ("remove", 1), ("remove", 9)]
        for batch in itertools.product(edits, repeat=3):
            answers = []
            for kind in KINDS:
                reel = kind((0, 0, 0, 0))
                try:
                    answers.append((reel.run(batch), reel.ring, reel.edits()))
                except Rejected as error:
                    answers.append((error.index, reel.ring, reel.edits()))
            self.assertEqual(answers, answers[:1] * 4)


if __name__ == "__main__":
    unittest.main()

"""Point 3 over the whole program: functions that accept any value, given results of the package itself."""

import unittest

from ringpostfix.beginnings import units
from ringpostfix.changes import (
    added_beginning, lowered, raised, replaced, select, with_token, without_token,
)
from ringpostfix.consoles import Console
from ringpostfix.counting import each_ready, ready_at
from ringpostfix.effects import effect_of, is_effect
from ringpostfix.errors import (
    BadEdit, BadEdits, BadRing, BadText, BadWish, NoArity, NoBeginning, NoIndex, NoPlace, NotReady, NoVersion,
)
from ringpostfix.far import beginning_at, far_beginnings, far_need, far_taker, is_far_ring
from ringpostfix.links import givers, lacks, links_hold, taker
from ringpostfix.reels import LoggedReadyReel, LoggedReel, Reel
from ringpostfix.rings import heights, is_ring, need, ring_error, turned
from ringpostfix.terms import parse_term, terms_from
from ringpostfix.texts import parse_ring
from ringpostfix.trees import is_tree, row_trees, trees_from
import samples

RING = (0, 0, 2, 0)
NAMES = ("a", "b", "f", "c")


def filled_reel():
    reel = LoggedReadyReel((0, 0, 2, 0))
    reel.put(2, 1)
    reel.choose(1)
    return reel


def results():
    """Return results of the package, some with parts replaced, none of them a number, a text or a ring."""
    reel = filled_reel()
    rows = tuple(each_ready((2, 1, 1, 0, 0, 0)))
    return [
        reel, reel.copy(), Console(reel), NoPlace(5), BadText(None), reel.edits(), reel.log, list(reel.walk()), [reel],
        (reel,), {"reel": reel}, (reel, reel), (0, reel), ("put", reel), (reel, 0, 0),
        rows, list(rows[0]), (rows[0], 0),
        (units(RING)[0], [3, 1]), list(far_beginnings(((0, 9), (2, 3)))), (None, "tuple"), lacks((3, 0)) + (None,),
        row_trees((0, 0, 2)) + ([],), effect_of(RING) + (True,), (False, True), select(RING) + (4.0,), links_of(RING),
    ]


def links_of(ring):
    return tuple(taker(ring, place) for place in range(len(ring)))


class QuestionsTest(unittest.TestCase):
    def test_results_are_no_rings_and_so_on(self):
        for value in results():
            before = repr(value)
            with self.subTest(value=before[:80]):
                self.assertIs(is_ring(value), False)
                self.assertIs(type(ring_error(value)), tuple)
                self.assertIs(is_effect(value), False)
                self.assertIs(is_far_ring(value), False)
                self.assertIs(is_tree(value), False)
                self.assertIs(links_hold(RING, value), value == links_of(RING))
                self.assertIs(Reel.is_edit(value), value == ("remove", 5))
                self.assertEqual(repr(value), before)

    def test_edits_with_results_as_arguments(self):
        for value in results():
            self.assertIs(Reel.is_edit(("put", value, value)), True)
            self.assertIs(Reel.is_edit(("remove", value)), True)
            self.assertIs(Reel.is_edit((value, 0)), False)
            self.assertIs(Reel.is_edit((value, 0, 0)), False)


class ErrorsTest(unittest.TestCase):
    def check(self, kind, field, value, function, *arguments, **wanted):
        with self.subTest(function=function.__name__, value=repr(value)[:80]):
            with self.assertRaises(kind) as caught:
                function(*arguments, **wanted)
            self.assertIs(type(caught.exception), kind)
            self.assertIs(getattr(caught.exception, field), value)

    def test_places(self):
        for value in results():
            for function in (turned, heights, need, taker, givers, trees_from, lowered, raised, added_beginning,
                             without_token):
                self.check(NoPlace, "value", value, function, RING, value)
            self.check(NoPlace, "value", value, with_token, RING, value, 0)
            self.check(NoPlace, "value", value, replaced, RING, value, 0, ())
            self.check(NoPlace, "value", value, terms_from, RING, NAMES, value)
            for function in (far_need, far_taker):
                self.check(NoPlace, "value", value, function, ((0, 9), (2, 3)), value)

    def test_indexes_rows_texts_and_wishes(self):
        for value in results():
            self.check(NoIndex, "value", value, beginning_at, ((0, 9), (2, 3)), value)
            self.check(NoIndex, "value", value, ready_at, (2, 1, 1, 0, 0, 0), value)
            self.check(NotReady, "row", value, row_trees, value)
            self.check(BadText, "index", None, parse_ring, value)
            self.check(BadText, "index", None, parse_term, value)
            self.check(BadText, "index", None, LoggedReel.read, value)
            for name in ("arity", "beginning", "free", "lacking"):
                self.check(BadWish, "value", value, select, RING, **{name: value})

    def test_reels(self):
        for value in results():
            reel = filled_reel()
            self.check(NoPlace, "value", value, reel.put, value, value)
            self.check(NoPlace, "value", value, reel.insert, value, value)
            self.check(NoPlace, "value", value, reel.remove, value)
            self.check(NoArity, "value", value, reel.put, 0, value)
            self.check(NoArity, "value", value, reel.insert, 0, value)
            self.check(NoBeginning, "value", value, reel.choose, value)
            self.check(NoVersion, "value", value, reel.ring_at, value)
            with self.assertRaises(BadRing) as caught:
                Reel(value)
            self.assertEqual(caught.exception.error, ring_error(value))
            with self.assertRaises(BadEdit):
                reel.run([value])
            if not isinstance(value, (list, tuple)):
                with self.assertRaises(BadEdits):
                    reel.run(value)
            self.assertEqual(Console(reel).execute(value), "unknown command")
            self.assertEqual([reel.ring, reel.version, reel.start], [(0, 0, 1, 0), 1, 1])


class OrderTest(unittest.TestCase):
    def test_no_result_is_the_very_list_of_an_argument(self):
        for value in samples.any_values():
            if isinstance(value, list):
                before = repr(value)
                for function in (is_ring, ring_error, is_effect, is_far_ring, is_tree, Reel.is_edit):
                    self.assertIsNot(function(value), value)
                self.assertEqual(repr(value), before)


if __name__ == "__main__":
    unittest.main()

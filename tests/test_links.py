"""Points 8, 2 (b) and 2 (c): which token takes which value."""

import copy
import unittest

from ringpostfix.beginnings import beginnings
from ringpostfix.errors import NoPlace
from ringpostfix.links import free_places, givers, lacks, links_hold, taker
from ringpostfix.rings import balance
import samples

SHORT = samples.short_rings()
RINGS = samples.all_rings()

# The examples of the document, word for word.
EXAMPLES = [
    (
        "from ringpostfix.links import taker\nR = (0, 0, 2, 0)",
        "[taker(R, 0), taker(R, 1), taker(R, 2), taker(R, 3), taker((1,), 0), taker((2, 0), 0), taker((2, 0), 1)]",
        "[2, 2, None, None, 0, 0, 0]",
    ),
    (
        "from ringpostfix.links import givers",
        "[givers((0, 0, 2, 0), 2), givers((2, 0), 0), givers((3, 0), 0), givers((0,), 0)]",
        "[(0, 1), (0, 1), (0, 1), ()]",
    ),
    (
        "from ringpostfix.links import lacks",
        "[lacks((3, 0)), lacks((2, 2)), lacks((0, 1))]",
        "[(1, 0), (1, 1), (0, 0)]",
    ),
    (
        "from ringpostfix.links import free_places",
        "[free_places((0, 0, 2, 0)), free_places((1, 1))]",
        "[(2, 3), ()]",
    ),
    (
        "from ringpostfix.links import links_hold",
        "[links_hold((0, 0, 2, 0), (2, 2, None, None)), links_hold((0, 0, 2, 0), (2, 2, None, True))]",
        "[True, False]",
    ),
]

# How often a ring is read here for what the document says of reading it without an end.
TIMES = 6


def read_takers(ring):
    """Return the takers of the tokens, found by reading for a long time."""
    taken = samples.endless_reading(ring, 0, TIMES)[0]
    # Only the values of the first reading have all the others to be taken in.
    takers = [None] * len(ring)
    for place, values, initial in taken:
        for reading, giver in values:
            if reading == 0:
                takers[giver] = place
    return tuple(takers)


class ExamplesTest(unittest.TestCase):
    def test_examples(self):
        for source, expression, answer in EXAMPLES:
            with self.subTest(expression=expression):
                self.assertEqual(samples.shown(source, expression), answer)


class TakerTest(unittest.TestCase):
    def test_takers_are_found_by_reading(self):
        for ring in RINGS:
            found = tuple(taker(ring, place) for place in range(len(ring)))
            self.assertEqual(found, read_takers(ring), ring)

    def test_edges(self):
        self.assertEqual([taker((arity,), 0) for arity in range(6)], [None, 0, 0, 0, 0, 0])
        self.assertEqual([taker((1,) * 24, place) for place in (0, 11, 23)], [1, 12, 0])
        self.assertEqual({taker((0,) * 24, place) for place in range(24)}, {None})
        self.assertEqual([taker((0,) * 23 + (5,), place) for place in (17, 18, 22, 23)], [None, 23, 23, None])
        self.assertEqual([taker((3, 0), 0), taker((3, 0), 1)], [0, 0])

    def test_rings_somewhat_beyond_the_limits(self):
        for ring in ((0,) * 30, (7,) + (0,) * 9, (0, 2) * 20, (2,) * 30):
            self.assertEqual(tuple(taker(ring, place) for place in range(len(ring))), read_takers(ring))


class GiversTest(unittest.TestCase):
    def test_givers_are_found_by_reading_from_each_place(self):
        for ring in SHORT[::3] + samples.long_rings():
            for start in range(0, len(ring), 1 + len(ring) // 6):
                taken = samples.endless_reading(ring, start, 4)[0]
                for place, values, initial in taken[len(ring):]:
                    self.assertEqual(tuple(giver for reading, giver in values), givers(ring, place), ring)

    def test_givers_of_all_short_rings(self):
        for ring in SHORT:
            for place, values, initial in samples.endless_reading(ring, 0, 3)[0][len(ring):]:
                self.assertEqual(tuple(giver for reading, giver in values), givers(ring, place), ring)
                self.assertIs(type(givers(ring, place)), tuple)

    def test_givers_and_takers_belong_together(self):
        for ring in RINGS:
            for place in range(len(ring)):
                given = sorted(at for at in range(len(ring)) if taker(ring, at) == place)
                self.assertEqual(sorted(givers(ring, place)), given)

    def test_order_in_which_the_values_were_put(self):
        self.assertEqual(givers((2, 0), 0), (0, 1))
        self.assertEqual(givers((0, 2), 1), (1, 0))
        self.assertEqual(givers((0, 0, 4, 0), 2), (2, 3, 0, 1))
        self.assertEqual(givers((3, 0, 0, 0), 0), (1, 2, 3))
        self.assertEqual(givers((0, 3, 0, 0), 1), (2, 3, 0))
        self.assertEqual(givers((0,) * 23 + (5,), 23), (18, 19, 20, 21, 22))
        self.assertEqual(givers((5,) + (0,) * 23, 0), (19, 20, 21, 22, 23))

    def test_edges(self):
        self.assertEqual([givers((arity,), 0) for arity in range(6)], [(), (0,), (0,), (0,), (0,), (0,)])
        self.assertEqual([givers((1,) * 24, place) for place in (0, 11, 23)], [(23,), (10,), (22,)])


class LacksTest(unittest.TestCase):
    def test_lacks_are_found_by_reading(self):
        for ring in RINGS:
            self.assertIs(type(lacks(ring)), tuple)
            for start in range(0, len(ring), 1 + len(ring) // 3):
                taken = samples.endless_reading(ring, start, 3)[0]
                for place, values, initial in taken[len(ring):]:
                    self.assertEqual(lacks(ring)[place], initial, ring)

    def test_a_ring_with_a_free_token_lacks_nothing(self):
        for ring in RINGS:
            if free_places(ring):
                self.assertEqual(lacks(ring), (0,) * len(ring))

    def test_arity_is_givers_and_lack(self):
        for ring in RINGS:
            for place, lack in enumerate(lacks(ring)):
                self.assertEqual(len(givers(ring, place)) + lack, ring[place])

    def test_edges(self):
        self.assertEqual([lacks((arity,)) for arity in range(6)], [(0,), (0,), (1,), (2,), (3,), (4,)])
        self.assertEqual(lacks((5,) * 24), (4,) * 24)
        self.assertEqual(lacks((0,) * 24), (0,) * 24)
        self.assertEqual(sum(lacks((0,) * 10 + (2,) * 14)), 4)


class FreePlacesTest(unittest.TestCase):
    def test_tokens_whose_value_is_never_taken(self):
        for ring in RINGS:
            takers = read_takers(ring)
            self.assertEqual(free_places(ring), tuple(at for at in range(len(ring)) if takers[at] is None), ring)
            self.assertIs(type(free_places(ring)), tuple)

    def test_a_place_is_a_beginning_exactly_behind_a_free_token(self):
        for ring in RINGS:
            behind = sorted((place + 1) % len(ring) for place in free_places(ring))
            self.assertEqual(beginnings(ring), tuple(behind), ring)

    def test_edges(self):
        self.assertEqual([free_places((arity,)) for arity in range(6)], [(0,), (), (), (), (), ()])
        self.assertEqual(free_places((0,) * 24), tuple(range(24)))
        self.assertEqual(free_places((1,) * 24), ())
        self.assertEqual(free_places((1,) * 23 + (0,)), (22,))
        self.assertEqual(free_places((0, 2) * 12), ())

    def test_samples_have_balances_of_all_signs(self):
        for rings in (SHORT, samples.long_rings()):
            self.assertEqual({(balance(ring) > 0) - (balance(ring) < 0) for ring in rings}, {-1, 0, 1})


class ReadingFromBeginningsTest(unittest.TestCase):
    def test_each_token_takes_the_values_of_the_same_tokens(self):
        for ring in RINGS:
            for start in beginnings(ring):
                for place, values, initial in samples.endless_reading(ring, start, 1)[0]:
                    self.assertEqual(tuple(giver for reading, giver in values), givers(ring, place), ring)
                    self.assertEqual(initial, 0)

    def test_the_same_values_are_left_in_the_same_order_turned(self):
        for ring in RINGS:
            free = free_places(ring)
            for start in beginnings(ring):
                left = tuple(place for reading, place in samples.endless_reading(ring, start, 1)[1])
                later = [place for place in free if place >= start]
                earlier = [place for place in free if place < start]
                self.assertEqual(left, tuple(later + earlier), ring)


class LinksHoldTest(unittest.TestCase):
    def check(self, ring, value, answer):
        before = copy.deepcopy(value)
        with self.subTest(ring=ring, value=repr(value)[:80]):
            self.assertIs(links_hold(ring, value), answer)
            self.assertEqual(repr(value), repr(before))

    def test_takers_hold(self):
        for ring in RINGS:
            self.assertIs(links_hold(ring, read_takers(ring)), True, ring)

    def test_other_values(self):
        for ring in ((0,), (1,), (0, 0), (2, 0), (1, 1), (0, 0, 2, 0), (1,) * 24):
            for value in samples.any_values():
                # The one value of the samples that is a tuple of takers.
                right = type(value) is tuple and value == (None,) and ring == (0,)
                self.check(ring, value, right)

    def test_each_item_replaced(self):
        wrong = [item for item in samples.any_values() if item is not None] + [-1, 1, 2, 3, 24, "2", "None", [2], (2,)]
        for ring in ((0,), (1,), (2, 0), (0, 1, 1), (0, 0, 2, 0), (0,) * 22 + (2, 3), (1,) * 24):
            takers = read_takers(ring)
            for index in range(len(ring)):
                for item in wrong + [None]:
                    same = type(item) is type(takers[index]) and item == takers[index]
                    self.check(ring, takers[:index] + (item,) + takers[index + 1:], same)

    def test_bools_are_not_places(self):
        self.check((1,), (0,), True)
        self.check((1,), (False,), False)
        self.check((1, 1), (1, 0), True)
        self.check((1, 1), (True, 0), False)
        self.check((1, 1), (1, False), False)

    def test_lengths_and_kinds(self):
        for ring in ((0,), (0, 0, 2, 0), (1,) * 24):
            takers = read_takers(ring)
            self.check(ring, list(takers), False)
            self.check(ring, takers[:-1], False)
            self.check(ring, takers + takers[:1], False)
            self.check(ring, takers + (None,), False)
            self.check(ring, (takers,), False)
            self.check(ring, {place: item for place, item in enumerate(takers)}, False)
            self.check(ring, (), False)
            self.check(ring, None, False)

    def test_takers_of_another_ring(self):
        for ring in SHORT[::5]:
            for other in SHORT[:40]:
                self.assertIs(links_hold(ring, read_takers(other)), read_takers(ring) == read_takers(other))


class NoPlaceTest(unittest.TestCase):
    def test_every_other_value_raises_no_place_with_it(self):
        for ring in ((0,), (3, 0), (1, 1, 1), (0, 0, 2, 0), (0,) * 24, (2,) * 24):
            for function in (taker, givers):
                for value in samples.values_that_are_no_place(len(ring)):
                    before = copy.deepcopy(value)
                    with self.subTest(function=function.__name__, ring=ring, value=value):
                        with self.assertRaises(NoPlace) as caught:
                            function(ring, value)
                        self.assertIs(caught.exception.value, value)
                        self.assertEqual(repr(value), repr(before))


class RepeatTest(unittest.TestCase):
    def test_equal_calls_return_equal_results(self):
        for ring in samples.long_rings():
            other = tuple(list(ring))
            self.assertEqual([lacks(ring), free_places(ring)], [lacks(other), free_places(other)])
            for place in range(len(ring)):
                self.assertEqual(taker(ring, place), taker(other, place))
                self.assertEqual(givers(ring, place), givers(other, place))


if __name__ == "__main__":
    unittest.main()

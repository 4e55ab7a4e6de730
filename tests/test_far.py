"""Points 12, 2 (a), 2 (b) and 2 (g): far rings."""

import copy
import itertools
import unittest

from ringpostfix.beginnings import beginnings
from ringpostfix.bounds import MAX_LENGTH
from ringpostfix.effects import effect_of
from ringpostfix.errors import NoIndex, NoPlace, TooLong
from ringpostfix.far import (
    beginning_at, far_balance, far_beginnings, far_effect, far_length, far_need, far_taker, is_far_ring, unrolled,
)
from ringpostfix.links import taker
from ringpostfix.rings import balance, need
import samples

# The examples of the document, word for word.
EXAMPLES = [
    (
        "from ringpostfix.far import is_far_ring",
        "[is_far_ring(((0, 5), (2, 4))), is_far_ring(()), is_far_ring(((0, 0),)),"
        " is_far_ring(((0, 10 ** 12), (0, 1)))]",
        "[True, False, False, False]",
    ),
    (
        "from ringpostfix.far import far_balance, far_effect, far_length\n"
        "F = ((0, 10 ** 11), (2, 10 ** 11 - 1), (0, 3))",
        "[far_length(F), far_balance(F), far_effect(F)]",
        "[200000000002, 4, (0, 4)]",
    ),
    (
        "from ringpostfix.far import far_need",
        "[far_need(((0, 10 ** 9), (2, 10 ** 9 - 1)), 5), far_need(((1, 7), (0, 1)), 0)]",
        "[5, 1]",
    ),
    (
        "from ringpostfix.far import far_beginnings",
        "[far_beginnings(((0, 5), (2, 3))), far_beginnings(((0, 10 ** 11), (2, 10 ** 11 - 1), (0, 3)))]",
        "[((0, 1),), ((0, 0), (199999999999, 200000000001))]",
    ),
    (
        "from ringpostfix.far import beginning_at",
        "beginning_at(((0, 10 ** 11), (2, 10 ** 11 - 1), (0, 3)), 2)",
        "200000000000",
    ),
    (
        "from ringpostfix.far import far_taker",
        "[far_taker(((0, 5), (2, 3)), 4), far_taker(((0, 5), (2, 3)), 1), far_taker(((0, 5), (2, 3)), 0)]",
        "[5, 7, None]",
    ),
    (
        "from ringpostfix.far import unrolled",
        "unrolled(((0, 3), (2, 1)))",
        "(0, 0, 0, 2)",
    ),
]


def rolled(ring):
    """Return the far ring of a ring, each run as long as it can be."""
    runs = []
    for arity in ring:
        if runs and runs[-1][0] == arity:
            runs[-1] = (arity, runs[-1][1] + 1)
        else:
            runs.append((arity, 1))
    return tuple(runs)


def spread(far):
    """Return the arities of all tokens, one after the other."""
    return tuple(arity for arity, count in far for _ in range(count))


def small_far_rings():
    """Return far rings of one to four runs, and of twelve runs, with at most 24 tokens."""
    rings = [((arity, count),) for arity in range(6) for count in range(1, 25)]
    rings += itertools.product(itertools.product(range(6), (1, 2, 3, 5, 12)), repeat=2)
    rings += itertools.product(itertools.product((0, 0, 1, 2, 3), (1, 2, 4)), repeat=3)
    rings += itertools.product(itertools.product((0, 1, 2), (1, 6)), repeat=4)
    rings += [rolled(ring) for ring in samples.long_rings()]
    rings += [tuple((arity, 2) for arity in ring[:12]) for ring in samples.long_rings()]
    rings += [tuple((arity, 1 + (arity == 0)) for arity in ring[:12]) for ring in samples.long_rings()]
    rings += [((0, 2),) * 12, ((0, 2), (2, 2)) * 6, ((1, 2),) * 12, ((5, 2),) * 12, ((0, 1),) * 12]
    found = dict.fromkeys(rings)
    return [far for far in found if len(far) <= 12 and len(spread(far)) <= 24]


SMALL = small_far_rings()


def great_far_rings():
    """Return far rings of many tokens, with all signs of the balance, some with exactly 10 ** 12 tokens."""
    rings = [((arity, 10 ** 12),) for arity in range(6)] + [((arity, 1),) for arity in range(6)]
    rings.append(((0, 5 * 10 ** 11), (2, 5 * 10 ** 11)))
    rings.append(((2, 5 * 10 ** 11), (0, 5 * 10 ** 11)))
    rings.append(((0, 5 * 10 ** 11 + 1), (2, 5 * 10 ** 11 - 1)))
    rings.append(((0, 10 ** 12 - 1), (5, 1)))
    rings.append(((5, 1), (0, 10 ** 12 - 1)))
    rings.append(((1, 10 ** 12 - 1), (0, 1)))
    rings.append(((0, 1), (1, 10 ** 12 - 1)))
    rings.append(((0, 10 ** 11), (2, 10 ** 11 - 1), (0, 3)))
    rings.append(((0, 3), (2, 10 ** 11 - 1), (0, 10 ** 11)))
    rings.append(((0, 83333333333), (1, 1)) * 6)
    rings.append(((0, 10 ** 9),) * 12)
    rings.append(((0, 7), (0, 10 ** 10), (3, 10 ** 9), (3, 1), (0, 2), (0, 1)))
    rings.append(((0, 10 ** 11), (5, 25 * 10 ** 9), (1, 10 ** 6), (0, 10 ** 11), (2, 10 ** 11), (0, 1)))
    state = 7
    for many in list(range(2, 13)) * 4:
        runs = []
        for _ in range(many):
            state = state * 1103515245 % 2147483647 + 12345
            arity = (0, 0, 0, 1, 2, 2, 3, 4, 5, 0)[state // 1000 % 10]
            runs.append((arity, 1 + state ** 3 % 10 ** (1 + state // 7 % 11) // max(1, arity)))
        rings.append(tuple(runs))
    return rings


GREAT = great_far_rings()


def edges_of(far):
    """Return the positions at which a run begins, and the length at the end."""
    edges = [0]
    for arity, count in far:
        edges.append(edges[-1] + count)
    return edges


def height_at(far, position):
    """Return the height before a position from 0 on, which may lie in a second or third reading."""
    length = edges_of(far)[-1]
    height = position // length * sum(count * (1 - arity) for arity, count in far)
    rest = position % length
    for arity, count in far:
        height += min(rest, count) * (1 - arity)
        rest -= min(rest, count)
    return height


def turning_points(far, first, last):
    """Return the edges of runs from first to last, over several readings, and these two."""
    length = edges_of(far)[-1]
    edges = [edge + turn * length for turn in range(4) for edge in edges_of(far)]
    return sorted({first, last} | {edge for edge in edges if first <= edge <= last})


def least_height(far, first, last):
    """Return the least height before a position from first to last: it is at an edge of a run."""
    return min(height_at(far, at) for at in turning_points(far, first, last))


def great_need(far, position):
    """Return the need of a position, from the least height behind it."""
    length = edges_of(far)[-1]
    return max(0, 1 + height_at(far, position) - least_height(far, position + 1, position + length))


def great_taker(far, position):
    """Return the taker of a position: the first token behind it that leaves no more than the position left."""
    length = edges_of(far)[-1]
    level = height_at(far, position + 1)
    if height_at(far, position + 2) <= level:
        return (position + 1) % length
    points = turning_points(far, position + 2, position + 1 + length)
    for before, after in zip(points, points[1:]):
        # Between two edges the height goes one way, so the first position can be found by halving.
        if height_at(far, after) <= level:
            while after - before > 1:
                middle = (before + after) // 2
                if height_at(far, middle) <= level:
                    after = middle
                else:
                    before = middle
            return (after - 1) % length
    return None


def telling_positions(far):
    """Return positions near the edges of runs, near the ends of ranges, and some others."""
    length = edges_of(far)[-1]
    found = {0, length // 2, length // 3, length - 1}
    for edge in edges_of(far):
        found |= {edge - 2, edge - 1, edge, edge + 1}
    for first, last in far_beginnings(far):
        found |= {first - 1, first, last, last + 1, (first + last) // 2}
    return sorted(position for position in found if 0 <= position < length)


class ExamplesTest(unittest.TestCase):
    def test_examples(self):
        for source, expression, answer in EXAMPLES:
            with self.subTest(expression=expression):
                self.assertEqual(samples.shown(source, expression), answer)


class SamplesTest(unittest.TestCase):
    def test_samples_are_of_every_kind(self):
        for rings in (SMALL, GREAT):
            self.assertEqual({len(far) for far in rings} & {1, 2, 12}, {1, 2, 12})
            signs = {(far_balance(far) > 0) - (far_balance(far) < 0) for far in rings}
            self.assertEqual(signs, {-1, 0, 1})
            self.assertTrue(any(far[k][0] == far[k + 1][0] for far in rings for k in range(len(far) - 1)))
            self.assertTrue(any(len(far_beginnings(far)) > 2 for far in rings))
        self.assertEqual({1, 24}, {len(spread(far)) for far in SMALL} & {1, 24})
        self.assertEqual(max(edges_of(far)[-1] for far in GREAT), 10 ** 12)
        self.assertGreater(len(SMALL), 1000)


class IsFarRingTest(unittest.TestCase):
    def check(self, value, answer):
        before = copy.deepcopy(value)
        with self.subTest(value=repr(value)[:80]):
            self.assertIs(is_far_ring(value), answer)
            self.assertEqual(repr(value), repr(before))

    def test_far_rings(self):
        for far in SMALL + GREAT:
            if is_far_ring(far) is not True:
                self.fail(far)

    def test_other_values(self):
        for value in samples.any_values():
            self.check(value, False)

    def test_number_of_runs(self):
        for many in range(16):
            self.check(((0, 1),) * many, 1 <= many <= 12)
            self.check(tuple((arity % 6, 10) for arity in range(many)), 1 <= many <= 12)
        self.check(((0, 1),) * 1000, False)

    def test_length(self):
        self.check(((0, 10 ** 12),), True)
        self.check(((5, 10 ** 12),), True)
        self.check(((0, 10 ** 12 + 1),), False)
        self.check(((0, 10 ** 12 - 1), (0, 1)), True)
        self.check(((0, 10 ** 12 - 1), (2, 2)), False)
        self.check(((0, 1), (0, 10 ** 12)), False)
        self.check(((1, 10 ** 30 - 1),), False)
        self.check(((0, 10 ** 12 // 12),) * 12, True)
        self.check(((0, 10 ** 12 // 12 + 1),) * 12, False)
        self.check(((0, 2 * 10 ** 12), (0, -(10 ** 12))), False)

    def test_arities_and_counts(self):
        for arity in range(-3, 9):
            self.check(((arity, 7),), 0 <= arity <= 5)
            self.check(((0, 2), (arity, 7)), 0 <= arity <= 5)
        for count in (-(10 ** 29), -1, 0, 1, 2):
            self.check(((0, count),), count >= 1)
            self.check(((0, 2), (3, count)), count >= 1)

    def test_each_wrong_part(self):
        wrong = [item for item in samples.any_values() if item not in (0, 1, 5, 6)] + [True, False]
        for item in wrong:
            for far in (((0, 5), (2, 3)), ((1, 1),), ((0, 2),) * 12):
                for index, (arity, count) in enumerate(far):
                    for run in (item, (item, count), (arity, item), (arity, count, item)):
                        right = type(item) is int and run == (arity, item) and 0 < item < 10 ** 12
                        self.check(far[:index] + (run,) + far[index + 1:], right)

    def test_lists_for_tuples_and_runs_alone(self):
        for value in (
            [(0, 5)], ([0, 5],), [[0, 5]], (0, 5), ((0, 5), 2), ((0,),), ((),), (((0, 5),),), {0: 5}, {"0": 5},
            ((0, 5), ()), ((0, 5, 1),), ("05",), ("05", "23"), (b"05",), ((0, 5), None), (None,) * 3,
        ):
            self.check(value, False)


class LengthBalanceEffectTest(unittest.TestCase):
    def test_unrolled_rings_agree(self):
        for far in SMALL:
            ring = spread(far)
            self.assertEqual(far_length(far), len(ring), far)
            self.assertEqual(far_balance(far), balance(ring), far)
            self.assertEqual(far_effect(far), effect_of(ring), far)
            self.assertIs(type(far_effect(far)), tuple)

    def test_many_tokens(self):
        for far in GREAT:
            length = edges_of(far)[-1]
            needed = max(0, 1 - least_height(far, 1, length))
            self.assertEqual(far_length(far), length)
            self.assertEqual(far_balance(far), height_at(far, length))
            self.assertEqual(far_effect(far), (needed, needed + height_at(far, length)))

    def test_edges(self):
        self.assertEqual([far_length(((0, 1),)), far_length(((5, 10 ** 12),))], [1, 10 ** 12])
        self.assertEqual([far_balance(((0, 10 ** 12),)), far_balance(((5, 10 ** 12),))], [10 ** 12, -4 * 10 ** 12])
        self.assertEqual(far_effect(((5, 10 ** 12),)), (4 * 10 ** 12 + 1, 1))
        self.assertEqual(far_effect(((1, 10 ** 12),)), (1, 1))


class FarNeedTest(unittest.TestCase):
    def test_unrolled_rings_agree(self):
        for far in SMALL:
            ring = spread(far)
            for position in range(len(ring)):
                self.assertEqual(far_need(far, position), need(ring, position), (far, position))

    def test_many_tokens(self):
        for far in GREAT:
            for position in telling_positions(far):
                self.assertEqual(far_need(far, position), great_need(far, position), (far, position))

    def test_edges(self):
        far = ((0, 10 ** 9), (2, 10 ** 9 - 1))
        self.assertEqual([far_need(far, at) for at in (0, 1, 10 ** 9, 2 * 10 ** 9 - 2)], [0, 1, 10 ** 9, 2])
        self.assertEqual(far_need(((5, 10 ** 12),), 10 ** 12 - 1), 4 * 10 ** 12 + 1)


def all_in(ranges):
    """Return all positions of some ranges."""
    return tuple(position for first, last in ranges for position in range(first, last + 1))


class FarBeginningsTest(unittest.TestCase):
    def check_form(self, far):
        ranges = far_beginnings(far)
        self.assertIs(type(ranges), tuple)
        self.assertTrue(all(type(item) is tuple and item[0] <= item[1] for item in ranges))
        # Between two ranges there is a position that is in none.
        self.assertTrue(all(item[1] + 1 < after[0] for item, after in zip(ranges, ranges[1:])))
        self.assertEqual(sum(last - first + 1 for first, last in ranges), max(0, far_balance(far)))

    def test_unrolled_rings_agree(self):
        for far in SMALL:
            self.check_form(far)
            self.assertEqual(all_in(far_beginnings(far)), beginnings(spread(far)), far)

    def test_many_tokens(self):
        for far in GREAT:
            self.check_form(far)
            length = edges_of(far)[-1]
            for first, last in far_beginnings(far):
                for position in (first, (first + last) // 2, last):
                    self.assertEqual(great_need(far, position), 0)
                if first > 0:
                    self.assertGreater(great_need(far, first - 1), 0)
                if last < length - 1:
                    self.assertGreater(great_need(far, last + 1), 0)

    def test_neighbouring_runs_of_the_same_arity(self):
        self.assertEqual(far_beginnings(((0, 3), (0, 4))), ((0, 6),))
        self.assertEqual(far_beginnings(((0, 1),) * 12), ((0, 11),))
        self.assertEqual(far_beginnings(((0, 3), (0, 4), (2, 5))), ((0, 1),))
        self.assertEqual(far_beginnings(((0, 3), (0, 4), (2, 2), (1, 1), (0, 2), (0, 9))), ((0, 4), (10, 20)))
        self.assertEqual(far_beginnings(((0, 1), (0, 10 ** 12 - 1))), ((0, 10 ** 12 - 1),))

    def test_last_position_and_position_0_are_not_joined(self):
        self.assertEqual(far_beginnings(((0, 3), (1, 1), (0, 2))), ((0, 2), (4, 5)))
        self.assertEqual(far_beginnings(((0, 3), (2, 1), (0, 2))), ((0, 1), (4, 5)))
        self.assertEqual(far_beginnings(((0, 10 ** 11), (2, 1), (0, 9))), (
            (0, 10 ** 11 - 2), (10 ** 11 + 1, 10 ** 11 + 9),
        ))

    def test_edges(self):
        self.assertEqual([far_beginnings(((arity, 10 ** 12),)) for arity in range(3)], [((0, 10 ** 12 - 1),), (), ()])
        self.assertEqual([far_beginnings(((arity, 1),)) for arity in range(3)], [((0, 0),), (), ()])
        self.assertEqual(far_beginnings(((0, 5 * 10 ** 11), (2, 5 * 10 ** 11))), ())
        self.assertEqual(far_beginnings(((1, 10 ** 12 - 1), (0, 1))), ((10 ** 12 - 1, 10 ** 12 - 1),))
        self.assertEqual(far_beginnings(((0, 1), (1, 10 ** 12 - 1))), ((0, 0),))
        self.assertEqual(far_beginnings(((0, 2), (2, 2)) * 6), ())
        self.assertEqual(far_beginnings(((0, 2), (1, 2)) * 6), tuple((at, at + 1) for at in range(0, 24, 4)))


class BeginningAtTest(unittest.TestCase):
    def check_error(self, far, index):
        before = copy.deepcopy(index)
        with self.subTest(far=far, index=repr(index)[:60]):
            with self.assertRaises(NoIndex) as caught:
                beginning_at(far, index)
            self.assertIs(type(caught.exception), NoIndex)
            self.assertIs(caught.exception.value, index)
            self.assertEqual(repr(index), repr(before))

    def test_every_index(self):
        for far in SMALL:
            starts = beginnings(spread(far))
            self.assertEqual(tuple(beginning_at(far, index) for index in range(len(starts))), starts)
            for index in (-1, len(starts), len(starts) + 1):
                self.check_error(far, index)

    def test_many_tokens(self):
        for far in GREAT:
            index = 0
            for first, last in far_beginnings(far):
                self.assertEqual(beginning_at(far, index), first)
                self.assertEqual(beginning_at(far, index + (last - first) // 2), first + (last - first) // 2)
                index += last - first
                self.assertEqual(beginning_at(far, index), last)
                index += 1
            self.check_error(far, index)
            self.check_error(far, index + 10 ** 12)

    def test_other_values(self):
        for far in (((0, 1),), ((0, 10 ** 12),), ((0, 5), (2, 3)), ((1, 10 ** 12),), ((5, 3),)):
            for index in samples.any_values():
                if not (type(index) is int and 0 <= index < far_balance(far)):
                    self.check_error(far, index)

    def test_edges(self):
        self.assertEqual(beginning_at(((0, 10 ** 12),), 10 ** 12 - 1), 10 ** 12 - 1)
        self.check_error(((0, 10 ** 12),), 10 ** 12)
        self.check_error(((0, 10 ** 12),), -1)
        self.check_error(((1, 1),), 0)


class FarTakerTest(unittest.TestCase):
    def test_unrolled_rings_agree(self):
        for far in SMALL:
            ring = spread(far)
            for position in range(len(ring)):
                self.assertEqual(far_taker(far, position), taker(ring, position), (far, position))

    def test_many_tokens(self):
        for far in GREAT:
            for position in telling_positions(far):
                self.assertEqual(far_taker(far, position), great_taker(far, position), (far, position))

    def test_a_position_is_a_beginning_exactly_behind_a_free_token(self):
        for far in GREAT:
            for position in telling_positions(far):
                behind = (position + 1) % far_length(far)
                self.assertIs(far_taker(far, position) is None, far_need(far, behind) == 0)

    def test_edges(self):
        self.assertEqual([far_taker(((arity, 1),), 0) for arity in range(6)], [None, 0, 0, 0, 0, 0])
        self.assertEqual([far_taker(((1, 10 ** 12),), at) for at in (0, 5, 10 ** 12 - 1)], [1, 6, 0])
        self.assertIsNone(far_taker(((0, 10 ** 12),), 10 ** 12 - 1))
        far = ((0, 5 * 10 ** 11), (2, 5 * 10 ** 11))
        last = 10 ** 12 - 1
        self.assertEqual([far_taker(far, at) for at in (0, 1, 5 * 10 ** 11 - 1)], [last - 1, last - 2, 5 * 10 ** 11])
        self.assertEqual([far_taker(far, at) for at in (last, last - 1)], [last, last])


class NoPlaceTest(unittest.TestCase):
    def test_every_other_value_raises_no_place_with_it(self):
        for far in (((0, 1),), ((5, 1),), ((0, 5), (2, 3)), ((1, 10 ** 12),), ((0, 10 ** 6), (2, 10 ** 11)) * 6):
            for function in (far_need, far_taker):
                for value in samples.values_that_are_no_place(far_length(far)):
                    before = copy.deepcopy(value)
                    with self.subTest(function=function.__name__, far=far, value=value):
                        with self.assertRaises(NoPlace) as caught:
                            function(far, value)
                        self.assertIs(type(caught.exception), NoPlace)
                        self.assertIs(caught.exception.value, value)
                        self.assertEqual(repr(value), repr(before))


class UnrolledTest(unittest.TestCase):
    def test_at_most_24_tokens(self):
        for far in SMALL:
            self.assertEqual(unrolled(far), spread(far))
            self.assertIs(type(unrolled(far)), tuple)
        for ring in samples.short_rings()[::3]:
            self.assertEqual(unrolled(rolled(ring)), ring)

    def test_more_tokens(self):
        for far in (((0, 25),), ((0, 24), (5, 1)), ((0, 1), (2, 24)), ((0, 2),) * 11 + ((1, 3),), ((0, 10 ** 12),)):
            with self.assertRaises(TooLong) as caught:
                unrolled(far)
            self.assertIs(type(caught.exception), TooLong)
            self.assertEqual(repr(caught.exception.limit), "24")

    def test_edges(self):
        self.assertEqual(unrolled(((3, 1),)), (3,))
        self.assertEqual(unrolled(((3, 24),)), (3,) * 24)
        self.assertEqual(unrolled(((0, 2), (0, 1))), (0, 0, 0))


class SomewhatBeyondTest(unittest.TestCase):
    def test_more_runs_and_more_tokens(self):
        for far in (((0, 1), (2, 1)) * 8 + ((0, 3),), ((0, 3), (7, 1), (0, 9), (1, 1))):
            ring = spread(far)
            self.assertEqual(far_effect(far), effect_of(ring))
            self.assertEqual(all_in(far_beginnings(far)), beginnings(ring))
            for position in range(len(ring)):
                self.assertEqual(far_need(far, position), need(ring, position))
                self.assertEqual(far_taker(far, position), taker(ring, position))
        far = ((0, 10 ** 12), (2, 10 ** 12), (0, 7))
        self.assertEqual([far_length(far), far_balance(far)], [2 * MAX_LENGTH + 7, 7])
        self.assertEqual(far_beginnings(far), ((2 * 10 ** 12, 2 * 10 ** 12 + 6),))
        self.assertEqual(beginning_at(far, 6), 2 * 10 ** 12 + 6)


class RepeatTest(unittest.TestCase):
    def test_equal_calls_return_equal_results(self):
        for far in GREAT:
            other = tuple([tuple(list(run)) for run in far])
            for function in (is_far_ring, far_length, far_balance, far_effect, far_beginnings):
                self.assertEqual(function(far), function(other))
            for position in telling_positions(far):
                self.assertEqual(far_need(far, position), far_need(other, position))
                self.assertEqual(far_taker(far, position), far_taker(other, position))


if __name__ == "__main__":
    unittest.main()

"""Points 4, 5 and 2 (a): rings, heights and needs."""

import copy
import unittest

from ringpostfix.errors import NoPlace
from ringpostfix.rings import balance, best_place, heights, is_ring, need, ring_error, turned
import samples

RINGS = samples.all_rings()

# The examples of the document, word for word.
EXAMPLES = [
    (
        "from ringpostfix.rings import is_ring, ring_error",
        "[is_ring((0, 0, 2)), is_ring(()), ring_error((0, 6, True)), ring_error([0])]",
        "[True, False, (1, 'arity'), (None, 'tuple')]",
    ),
    (
        "from ringpostfix.rings import balance",
        "[balance((0, 0, 2, 0)), balance((3, 0)), balance(())]",
        "[2, -1, 0]",
    ),
    (
        "from ringpostfix.rings import turned",
        "turned((0, 0, 2, 1), 2)",
        "(2, 1, 0, 0)",
    ),
    (
        "from ringpostfix.rings import heights",
        "[heights((0, 0, 2, 0), 0), heights((0, 0, 2, 0), 2)]",
        "[(1, 2, 1, 2), (-1, 0, 1, 2)]",
    ),
    (
        "from ringpostfix.rings import need",
        "[need((0, 0, 2, 0), 0), need((0, 0, 2, 0), 1), need((0, 0, 2, 0), 2), need((0, 0, 2, 0), 3)]",
        "[0, 1, 2, 0]",
    ),
    (
        "from ringpostfix.rings import best_place",
        "[best_place((2, 0, 0)), best_place((3, 0))]",
        "[(1, 0), (1, 2)]",
    ),
]


def read_tokens(ring, place):
    """Return the arities in the order of reading, found step by step."""
    return [ring[(place + step) % len(ring)] for step in range(len(ring))]


def finds_enough(arities, values):
    """Return whether no token finds too few values on a stack that holds so many."""
    for arity in arities:
        if values < arity:
            return False
        values = values - arity + 1
    return True


def least_values(ring, place):
    """Return the need by trying: the least number of values with which reading works."""
    arities = read_tokens(ring, place)
    values = 0
    while not finds_enough(arities, values):
        values += 1
    return values


class ExamplesTest(unittest.TestCase):
    def test_examples(self):
        for source, expression, answer in EXAMPLES:
            with self.subTest(expression=expression):
                self.assertEqual(samples.shown(source, expression), answer)


class RingErrorTest(unittest.TestCase):
    def check(self, value, error):
        before = copy.deepcopy(value)
        with self.subTest(value=repr(value)[:80]):
            self.assertEqual(repr(ring_error(value)), repr(error))
            self.assertIs(is_ring(value), error is None)
            self.assertEqual(repr(value), repr(before))

    def test_rings(self):
        for ring in RINGS:
            if ring_error(ring) is not None or is_ring(ring) is not True:
                self.fail(f"{ring} is a ring")
        for arity in range(6):
            self.check((arity,), None)
            self.check((arity,) * 24, None)

    def test_not_a_tuple(self):
        for value in samples.any_values():
            if not isinstance(value, tuple):
                self.check(value, (None, "tuple"))
        for value in ([0] * 24, [0] * 25, [6], [True], "0", {"0": 0}):
            self.check(value, (None, "tuple"))

    def test_length_comes_before_the_items(self):
        for value in ((), (0,) * 25, (0,) * 1000, (6,) * 25, (None,) * 25, ([],) * 25):
            self.check(value, (None, "length"))

    def test_each_wrong_item_at_each_index(self):
        wrong = [item for item in samples.any_values() if item not in (0, 1, 5)] + [True, False]
        for item in wrong + [-1, 6, 7, -5, [0], (0,)]:
            for ring in ((0,), (0, 5, 2), (1,) * 24):
                for index in range(len(ring)):
                    self.check(ring[:index] + (item,) + ring[index + 1:], (index, "arity"))

    def test_first_of_several_wrong_items(self):
        self.check((0, 6, True), (1, "arity"))
        self.check((True, 6, -1), (0, "arity"))
        self.check((0, 0, False, None, 6), (2, "arity"))
        self.check((5, 4, 3, 2, 1, 0, [], {}), (6, "arity"))
        self.check((0,) * 22 + (-1, 6), (22, "arity"))

    def test_no_sample_is_a_ring(self):
        for value in samples.any_values():
            self.assertIs(is_ring(value), False)
            self.assertEqual(ring_error(value), ring_error(copy.deepcopy(value)))


class BalanceTest(unittest.TestCase):
    def test_empty_row_and_single_tokens(self):
        self.assertEqual(balance(()), 0)
        self.assertEqual([balance((arity,)) for arity in range(6)], [1, 0, -1, -2, -3, -4])

    def test_long_rows(self):
        rows = [(0,) * 24, (1,) * 24, (5,) * 24, (0, 2) * 12, (5,) + (0,) * 22]
        self.assertEqual([balance(row) for row in rows], [24, 0, -96, 0, 18])

    def test_sum_of_the_steps(self):
        for ring in RINGS:
            self.assertEqual(balance(ring), sum(1 - arity for arity in ring))

    def test_samples_have_balances_of_all_signs(self):
        for rings in (samples.short_rings(), samples.long_rings()):
            signs = {(balance(ring) > 0) - (balance(ring) < 0) for ring in rings}
            self.assertEqual(signs, {-1, 0, 1})


class TurnedTest(unittest.TestCase):
    def test_every_place(self):
        for ring in RINGS:
            for place in range(len(ring)):
                self.assertEqual(turned(ring, place), tuple(read_tokens(ring, place)))

    def test_kind_of_the_result(self):
        self.assertIs(type(turned((0, 2), 1)), tuple)
        self.assertEqual(turned((3,), 0), (3,))


class HeightsTest(unittest.TestCase):
    def test_every_place(self):
        for ring in RINGS:
            for place in range(len(ring)):
                arities = read_tokens(ring, place)
                sums = [step + 1 - sum(arities[:step + 1]) for step in range(len(ring))]
                self.assertEqual(heights(ring, place), tuple(sums))

    def test_last_height_is_the_balance(self):
        for ring in RINGS:
            self.assertEqual({heights(ring, place)[-1] for place in range(len(ring))}, {balance(ring)})

    def test_edges(self):
        self.assertEqual(heights((0,), 0), (1,))
        self.assertEqual(heights((5,), 0), (-4,))
        self.assertEqual(heights((0,) * 24, 23), tuple(range(1, 25)))
        self.assertEqual(heights((5,) * 24, 7), tuple(range(-4, -97, -4)))
        self.assertIs(type(heights((0,), 0)), tuple)


class NeedTest(unittest.TestCase):
    def test_need_is_found_by_trying(self):
        for ring in RINGS:
            for place in range(len(ring)):
                self.assertEqual(need(ring, place), least_values(ring, place))

    def test_edges(self):
        self.assertEqual([need((arity,), 0) for arity in range(6)], [0, 1, 2, 3, 4, 5])
        self.assertEqual(need((5,) * 24, 11), 97)
        self.assertEqual(need((0,) * 24, 11), 0)
        self.assertEqual(need((1,) * 24, 11), 1)
        self.assertEqual([need((2,) * 12 + (0,) * 12, place) for place in (0, 12, 23)], [13, 1, 12])


class BestPlaceTest(unittest.TestCase):
    def test_lowest_place_with_the_least_need(self):
        for ring in RINGS:
            needs = [least_values(ring, place) for place in range(len(ring))]
            self.assertEqual(best_place(ring), (needs.index(min(needs)), min(needs)))

    def test_least_need_follows_from_the_balance(self):
        for ring in RINGS:
            self.assertEqual(best_place(ring)[1], max(0, 1 - balance(ring)))

    def test_edges(self):
        self.assertEqual(best_place((0,)), (0, 0))
        self.assertEqual(best_place((5,)), (0, 5))
        self.assertEqual(best_place((1,) * 24), (0, 1))
        self.assertEqual(best_place((5,) + (0,) * 22), (1, 0))
        self.assertEqual(best_place((2,) * 12 + (0,) * 12), (12, 1))
        self.assertIs(type(best_place((0,))), tuple)


class NoPlaceTest(unittest.TestCase):
    def test_every_other_value_raises_no_place_with_it(self):
        for ring in ((0,), (3, 0), (1, 1, 1), (0, 0, 2, 0), (0,) * 24, (2,) * 24):
            for function in (turned, heights, need):
                for value in samples.values_that_are_no_place(len(ring)):
                    before = copy.deepcopy(value)
                    with self.subTest(function=function.__name__, ring=ring, value=value):
                        with self.assertRaises(NoPlace) as caught:
                            function(ring, value)
                        self.assertIs(caught.exception.value, value)
                        self.assertEqual(repr(value), repr(before))


class RepeatTest(unittest.TestCase):
    def test_equal_calls_return_equal_results(self):
        for ring in samples.long_rings():
            other = tuple(list(ring))
            self.assertEqual([is_ring(ring), ring_error(ring)], [is_ring(other), ring_error(other)])
            self.assertEqual([balance(ring), best_place(ring)], [balance(other), best_place(other)])
            for place in range(len(ring)):
                for function in (turned, heights, need):
                    self.assertEqual(function(ring, place), function(other, place))

    def test_rings_somewhat_beyond_the_limits(self):
        for ring in ((0,) * 30, (7, 0, 0), (0, 2) * 20):
            self.assertEqual(turned(ring, 1), ring[1:] + ring[:1])
            self.assertEqual(need(ring, 1), least_values(ring, 1))
            self.assertEqual(best_place(ring)[1], max(0, 1 - balance(ring)))
            self.assertEqual(heights(ring, 1)[-1], balance(ring))


if __name__ == "__main__":
    unittest.main()

"""Points 13 and 2 (f): how many rows some tokens have, and which number a ready one has."""

import copy
import inspect
import itertools
import math
import unittest

from ringpostfix.counting import count_ready, count_rows, each_ready, ready_at, ready_index
from ringpostfix.errors import NoIndex, NotReady
import samples

# The examples of the document, word for word.
EXAMPLES = [
    (
        "from ringpostfix.counting import count_ready, count_rows",
        "[count_rows((4, 0, 1, 0, 0, 0)), count_ready((4, 0, 1, 0, 0, 0)), count_ready((1, 0, 1, 0, 0, 0))]",
        "[5, 3, 0]",
    ),
    (
        "from ringpostfix.counting import ready_at, ready_index",
        "[ready_at((4, 0, 1, 0, 0, 0), 0), ready_at((4, 0, 1, 0, 0, 0), 2), ready_index((0, 0, 0, 2, 0))]",
        "[(0, 0, 0, 0, 2), (0, 0, 2, 0, 0), 1]",
    ),
    (
        "from ringpostfix.counting import each_ready",
        "list(each_ready((2, 1, 1, 0, 0, 0)))",
        "[(0, 0, 1, 2), (0, 0, 2, 1), (0, 1, 0, 2)]",
    ),
]


def all_counts(total):
    """Return all counts with this sum."""
    return [counts for counts in itertools.product(range(total + 1), repeat=6) if sum(counts) == total]


def balance_of(counts):
    return sum(many * (1 - arity) for arity, many in enumerate(counts))


def rows_of(counts):
    """Return all rows of the counts in ascending order."""
    if sum(counts) == 0:
        return [()]
    rows = []
    for arity, many in enumerate(counts):
        if many > 0:
            fewer = counts[:arity] + (many - 1,) + counts[arity + 1:]
            rows.extend((arity,) + row for row in rows_of(fewer))
    return rows


# For each of these counts its rows in ascending order, and the ready ones among them.
ROWS = {counts: rows_of(counts) for total in range(1, 6) for counts in all_counts(total)}
LARGE = [
    (10, 0, 0, 0, 0, 0), (0, 10, 0, 0, 0, 0), (0, 0, 0, 0, 0, 10), (9, 0, 0, 0, 0, 1), (9, 1, 0, 0, 0, 0),
    (1, 9, 0, 0, 0, 0), (8, 0, 0, 1, 1, 0), (6, 2, 1, 1, 0, 0), (5, 3, 1, 1, 0, 0), (5, 1, 4, 0, 0, 0),
    (5, 0, 5, 0, 0, 0), (4, 4, 1, 1, 0, 0), (7, 0, 2, 0, 1, 0), (6, 1, 2, 1, 0, 0), (3, 2, 2, 0, 0, 0),
]
ROWS.update({counts: rows_of(counts) for counts in LARGE})
READY = {counts: [row for row in rows if samples.can_be_read(row)] for counts, rows in ROWS.items()}


class ExamplesTest(unittest.TestCase):
    def test_examples(self):
        for source, expression, answer in EXAMPLES:
            with self.subTest(expression=expression):
                self.assertEqual(samples.shown(source, expression), answer)


class SamplesTest(unittest.TestCase):
    def test_samples_are_of_every_kind(self):
        self.assertEqual({sum(counts) for counts in ROWS}, {1, 2, 3, 4, 5, 7, 10})
        self.assertEqual({(balance_of(counts) > 0) - (balance_of(counts) < 0) for counts in ROWS}, {-1, 0, 1})
        self.assertGreater(max(len(rows) for rows in READY.values()), 1000)
        self.assertEqual(ROWS[(2, 1, 0, 0, 0, 0)], sorted(set(itertools.permutations((0, 0, 1)))))


class CountTest(unittest.TestCase):
    def test_rows_and_ready_ones_are_found_by_writing_them_down(self):
        for counts, rows in ROWS.items():
            self.assertEqual(count_rows(counts), len(rows), counts)
            self.assertEqual(count_ready(counts), len(READY[counts]), counts)
            self.assertEqual([type(count_rows(counts)), type(count_ready(counts))], [int, int])

    def test_all_counts_with_a_sum_of_10(self):
        found = all_counts_of_10()
        self.assertEqual(len(found), 3003)
        for counts in found:
            rows = math.factorial(10)
            for many in counts:
                rows //= math.factorial(many)
            self.assertEqual(count_rows(counts), rows)
            self.assertEqual(count_ready(counts) * 10, rows * max(0, balance_of(counts)))

    def test_share_of_the_ready_ones(self):
        for counts, rows in ROWS.items():
            share = max(0, balance_of(counts))
            self.assertEqual(len(READY[counts]) * sum(counts), len(rows) * share, counts)

    def test_edges(self):
        single = [tuple(int(arity == at) for at in range(6)) for arity in range(6)]
        self.assertEqual([count_rows(counts) for counts in single], [1] * 6)
        self.assertEqual([count_ready(counts) for counts in single], [1, 0, 0, 0, 0, 0])
        self.assertEqual([count_rows((10, 0, 0, 0, 0, 0)), count_ready((10, 0, 0, 0, 0, 0))], [1, 1])
        self.assertEqual([count_rows((2, 2, 2, 2, 1, 1)), count_ready((2, 2, 2, 2, 1, 1))], [226800, 0])


def all_counts_of_10():
    """Return all counts with a sum of 10, without trying all others."""
    found = []
    for bars in itertools.combinations(range(15), 5):
        edges = (-1,) + bars + (15,)
        found.append(tuple(after - before - 1 for before, after in zip(edges, edges[1:])))
    return found


class ReadyAtTest(unittest.TestCase):
    def check_error(self, counts, index):
        before = copy.deepcopy(index)
        with self.subTest(counts=counts, index=repr(index)[:60]):
            with self.assertRaises(NoIndex) as caught:
                ready_at(counts, index)
            self.assertIs(type(caught.exception), NoIndex)
            self.assertIs(caught.exception.value, index)
            self.assertEqual(repr(index), repr(before))

    def test_every_index(self):
        for counts, rows in READY.items():
            if sum(counts) < 10:
                self.assertEqual([ready_at(counts, index) for index in range(len(rows))], rows)

    def test_indexes_of_long_rows(self):
        for counts in LARGE:
            rows = READY[counts]
            for index in list(range(0, len(rows), 1 + len(rows) // 40)) + [len(rows) - 1]:
                if index >= 0:
                    self.assertEqual(ready_at(counts, index), rows[index])
                    self.assertIs(type(ready_at(counts, index)), tuple)

    def test_indexes_outside(self):
        for counts, rows in READY.items():
            for index in (-1, len(rows), len(rows) + 1, -len(rows) - 1):
                self.check_error(counts, index)

    def test_other_values(self):
        for counts in ((1, 0, 0, 0, 0, 0), (4, 0, 1, 0, 0, 0), (1, 0, 1, 0, 0, 0), (9, 0, 0, 0, 0, 1)):
            for index in samples.any_values():
                if not (type(index) is int and 0 <= index < len(READY.get(counts, ()))):
                    self.check_error(counts, index)

    def test_counts_without_a_ready_row(self):
        for counts in ((0, 1, 0, 0, 0, 0), (0, 0, 0, 0, 0, 1), (5, 0, 5, 0, 0, 0), (0, 0, 0, 0, 0, 10)):
            for index in (0, 1, -1, False, None):
                self.check_error(counts, index)


class ReadyIndexTest(unittest.TestCase):
    def check_error(self, row):
        with self.assertRaises(NotReady) as caught:
            ready_index(row)
        self.assertIs(type(caught.exception), NotReady)
        self.assertIs(caught.exception.row, row)

    def test_every_row(self):
        for counts, rows in READY.items():
            if sum(counts) < 10:
                self.assertEqual([ready_index(row) for row in rows], list(range(len(rows))))

    def test_long_rows(self):
        for counts in LARGE:
            rows = READY[counts]
            for index in range(0, len(rows), 1 + len(rows) // 40):
                self.assertEqual(ready_index(rows[index]), index)

    def test_rows_that_are_not_ready(self):
        for counts, rows in ROWS.items():
            for row in rows[:200]:
                if not samples.can_be_read(row):
                    self.check_error(row)
        self.check_error(())
        for arity in range(1, 6):
            self.check_error((arity,))
            self.check_error((arity,) * 10)
            self.check_error((arity,) + (0,) * 9)

    def test_edges(self):
        self.assertEqual([ready_index((0,)), ready_index((0,) * 10), ready_index((0,) + (1,) * 9)], [0, 0, 0])
        self.assertEqual(ready_index((0,) * 9 + (5,)), 0)
        self.assertEqual(ready_index((0, 0, 0, 0, 0, 5, 0, 0, 0, 0)), 4)


class EachReadyTest(unittest.TestCase):
    def test_rows_in_ascending_order(self):
        for counts, rows in READY.items():
            self.assertEqual(list(each_ready(counts)), rows, counts)

    def test_it_is_a_generator(self):
        made = each_ready((2, 1, 1, 0, 0, 0))
        self.assertTrue(inspect.isgenerator(made))
        self.assertEqual(next(made), (0, 0, 1, 2))
        other = each_ready((2, 1, 1, 0, 0, 0))
        self.assertEqual(next(made), (0, 0, 2, 1))
        self.assertEqual(list(other), [(0, 0, 1, 2), (0, 0, 2, 1), (0, 1, 0, 2)])
        self.assertEqual([list(made), list(made)], [[(0, 1, 0, 2)], []])

    def test_counts_without_a_ready_row(self):
        for counts in ((0, 1, 0, 0, 0, 0), (5, 0, 5, 0, 0, 0), (2, 2, 2, 2, 1, 1), (0, 0, 0, 0, 0, 10)):
            self.assertEqual(list(each_ready(counts)), [])

    def test_kinds_of_what_it_yields(self):
        for row in each_ready((4, 1, 1, 0, 0, 0)):
            self.assertIs(type(row), tuple)
            self.assertEqual({type(arity) for arity in row}, {int})


class SomewhatBeyondTest(unittest.TestCase):
    def test_more_tokens(self):
        counts = (6, 3, 1, 1, 0, 0)
        rows = [row for row in rows_of(counts) if samples.can_be_read(row)]
        self.assertEqual([count_rows(counts), count_ready(counts)], [len(rows_of(counts)), len(rows)])
        self.assertEqual(list(each_ready(counts)), rows)
        for index in range(0, len(rows), 97):
            self.assertEqual([ready_at(counts, index), ready_index(rows[index])], [rows[index], index])
        # Too many rows to go through them one by one.
        many = (14, 2, 2, 1, 1, 0)
        self.assertEqual(ready_index(ready_at(many, 1234567)), 1234567)

    def test_no_tokens(self):
        none = (0, 0, 0, 0, 0, 0)
        self.assertEqual([count_ready(none), list(each_ready(none))], [0, []])
        with self.assertRaises(NoIndex):
            ready_at(none, 0)


class RepeatTest(unittest.TestCase):
    def test_equal_calls_return_equal_results(self):
        for counts in LARGE:
            other = tuple(list(counts))
            self.assertEqual([count_rows(counts), count_ready(counts)], [count_rows(other), count_ready(other)])
            self.assertEqual(list(each_ready(counts)), list(each_ready(other)))
            if READY[counts]:
                row = ready_at(counts, 0)
                self.assertEqual([row, ready_index(row)], [ready_at(other, 0), ready_index(tuple(list(row)))])


if __name__ == "__main__":
    unittest.main()

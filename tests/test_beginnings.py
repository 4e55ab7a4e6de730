"""Points 7 and 2 (a): beginnings, units and joined rows."""

import copy
import itertools
import unittest

from ringpostfix.beginnings import beginnings, count_beginnings, join_rows, next_beginning, units
from ringpostfix.effects import effect_of
from ringpostfix.errors import NoPlace, NoRows, NotReady, TooLong
from ringpostfix.rings import balance, turned
import samples

RINGS = samples.all_rings()

# The examples of the document, word for word.
EXAMPLES = [
    (
        "from ringpostfix.beginnings import beginnings, count_beginnings",
        "[beginnings((0, 0, 2, 0)), beginnings((1, 0)), beginnings((1, 1)), count_beginnings((2, 0, 0, 0))]",
        "[(0, 3), (1,), (), 2]",
    ),
    (
        "from ringpostfix.beginnings import next_beginning",
        "[next_beginning((0, 0, 2, 0), 1), next_beginning((0, 0, 2, 0), 3), next_beginning((1, 1), 0)]",
        "[3, 3, None]",
    ),
    (
        "from ringpostfix.beginnings import units",
        "[units((0, 0, 2, 0)), units((1, 0)), units((2,))]",
        "[((0, 3), (3, 1)), ((1, 2),), ()]",
    ),
    (
        "from ringpostfix.beginnings import beginnings, join_rows",
        "[join_rows((0, 0, 2), (0, 0)), beginnings(join_rows((0, 0, 2), (0, 0)))]",
        "[(0, 0, 2, 0, 0), (0, 3, 4)]",
    ),
    (
        "from ringpostfix.beginnings import join_rows",
        "join_rows((0,), (2, 0, 0))",
        "raises NotReady((2, 0, 0))",
    ),
]


def tried_beginnings(ring):
    """Return the beginnings, found by reading from each place."""
    return tuple(place for place in range(len(ring)) if samples.can_be_read(ring[place:] + ring[:place]))


class ExamplesTest(unittest.TestCase):
    def test_examples(self):
        for source, expression, answer in EXAMPLES:
            with self.subTest(expression=expression):
                self.assertEqual(samples.shown(source, expression), answer)


class BeginningsTest(unittest.TestCase):
    def test_places_from_which_one_can_read(self):
        for ring in RINGS:
            self.assertEqual(beginnings(ring), tried_beginnings(ring), ring)
            self.assertIs(type(beginnings(ring)), tuple)

    def test_as_many_as_the_balance(self):
        for ring in RINGS:
            self.assertEqual(count_beginnings(ring), max(0, balance(ring)), ring)
            self.assertEqual(count_beginnings(ring), len(beginnings(ring)))

    def test_edges(self):
        self.assertEqual([beginnings((arity,)) for arity in range(6)], [(0,), (), (), (), (), ()])
        self.assertEqual(beginnings((0,) * 24), tuple(range(24)))
        self.assertEqual(beginnings((5,) * 24), ())
        self.assertEqual(beginnings((1,) * 23 + (0,)), (23,))
        self.assertEqual(beginnings((5,) + (0,) * 22), tuple(range(1, 19)))
        self.assertEqual([count_beginnings((0,) * 24), count_beginnings((1,) * 24)], [24, 0])

    def test_rings_somewhat_beyond_the_limits(self):
        for ring in ((0,) * 30, (7,) + (0,) * 9, (0, 2) * 20):
            self.assertEqual(beginnings(ring), tried_beginnings(ring))


class NextBeginningTest(unittest.TestCase):
    def test_every_place(self):
        for ring in RINGS:
            starts = tried_beginnings(ring)
            for place in range(len(ring)):
                around = [at for at in starts if at >= place] + list(starts)
                self.assertEqual(next_beginning(ring, place), around[0] if around else None)

    def test_edges(self):
        self.assertEqual(next_beginning((0,), 0), 0)
        self.assertIsNone(next_beginning((1,), 0))
        self.assertEqual(next_beginning((1,) * 23 + (0,), 0), 23)
        self.assertEqual(next_beginning((0,) + (1,) * 23, 1), 0)
        self.assertEqual(next_beginning((0,) * 24, 17), 17)

    def test_every_other_value_raises_no_place_with_it(self):
        for ring in ((0,), (1,), (3, 0), (0, 0, 2, 0), (0,) * 24, (2,) * 24):
            for value in samples.values_that_are_no_place(len(ring)):
                before = copy.deepcopy(value)
                with self.subTest(ring=ring, value=value):
                    with self.assertRaises(NoPlace) as caught:
                        next_beginning(ring, value)
                    self.assertIs(caught.exception.value, value)
                    self.assertEqual(repr(value), repr(before))


def walked_units(ring):
    """Return the units, found by walking from each beginning to the next one."""
    starts = tried_beginnings(ring)
    found = []
    for start in starts:
        length = 1
        while (start + length) % len(ring) not in starts:
            length += 1
        found.append((start, length))
    return tuple(found)


class UnitsTest(unittest.TestCase):
    def test_every_ring(self):
        for ring in RINGS:
            self.assertEqual(units(ring), walked_units(ring))

    def test_each_unit_has_the_effect_of_one_value(self):
        for ring in RINGS:
            for place, length in units(ring):
                self.assertEqual(effect_of(turned(ring, place)[:length]), (0, 1))

    def test_units_cover_the_ring(self):
        for ring in RINGS:
            lengths = [length for place, length in units(ring)]
            self.assertEqual(sum(lengths), len(ring) if lengths else 0)

    def test_edges(self):
        self.assertEqual(units((0,)), ((0, 1),))
        self.assertEqual(units((1,) * 24), ())
        self.assertEqual(units((0,) * 24), tuple((place, 1) for place in range(24)))
        self.assertEqual(units((1,) * 23 + (0,)), ((23, 24),))
        self.assertEqual(units((0,) + (1,) * 23), ((0, 24),))
        self.assertEqual(units((2, 0, 0, 0)), ((1, 1), (2, 3)))
        for ring in ((0,), (2,), (0, 0, 2, 0)):
            self.assertIs(type(units(ring)), tuple)
            self.assertTrue(all(type(unit) is tuple for unit in units(ring)))


# Rows of every kind; the ready ones are those that can be read and are not empty.
READY = [row for row in samples.short_rings() if len(row) < 4 and samples.can_be_read(row)]
NOT_READY = [()] + [row for row in samples.short_rings() if len(row) < 4 and not samples.can_be_read(row)]


class JoinRowsTest(unittest.TestCase):
    def check_error(self, rows, kind, field, value):
        with self.subTest(rows=rows):
            with self.assertRaises(kind) as caught:
                join_rows(*rows)
            self.assertIs(type(caught.exception), kind)
            self.assertIs(getattr(caught.exception, field), value)

    def test_one_row(self):
        for ring in RINGS:
            if samples.can_be_read(ring):
                self.assertEqual(join_rows(ring), ring)
            else:
                self.check_error([ring], NotReady, "row", ring)

    def test_tokens_of_all_rows_in_order(self):
        for rows in itertools.product(READY[::2], repeat=3):
            self.assertEqual(join_rows(*rows), rows[0] + rows[1] + rows[2])
            self.assertIs(type(join_rows(*rows)), tuple)

    def test_beginnings_are_those_of_the_rows(self):
        for rows in itertools.product(READY[::2], repeat=3):
            starts = []
            offset = 0
            for row in rows:
                starts.extend(offset + place for place in tried_beginnings(row))
                offset += len(row)
            self.assertEqual(beginnings(join_rows(*rows)), tuple(sorted(starts)), rows)

    def test_without_rows(self):
        with self.assertRaises(NoRows) as caught:
            join_rows()
        self.assertIs(type(caught.exception), NoRows)

    def test_each_row_that_is_not_ready(self):
        for row in NOT_READY:
            self.check_error([row], NotReady, "row", row)
            self.check_error([(0,), row], NotReady, "row", row)
            self.check_error([(0,), row, (0, 0)], NotReady, "row", row)

    def test_first_row_that_is_not_ready(self):
        for first, second in itertools.permutations(NOT_READY[::17], 2):
            self.check_error([(0,), first, (0, 1), second], NotReady, "row", first)

    def test_row_itself_is_in_the_error(self):
        first, second = tuple([1, 0]), tuple([1, 0])
        self.check_error([first, second], NotReady, "row", first)
        self.check_error([(0,), second, first], NotReady, "row", second)

    def test_length(self):
        self.assertEqual(join_rows(*[(0,)] * 24), (0,) * 24)
        self.assertEqual(join_rows((0,) * 23, (0,)), (0,) * 24)
        for rows in ([(0,)] * 25, [(0,) * 24, (0,)], [(0,), (0,) * 24], [(0,) * 24, (0,) * 24], [(0,)] * 200):
            with self.assertRaises(TooLong) as caught:
                join_rows(*rows)
            self.assertIs(type(caught.exception), TooLong)
            self.assertEqual(repr(caught.exception.limit), "24")

    def test_rows_that_are_not_ready_come_before_the_length(self):
        for row in NOT_READY:
            self.check_error([(0,) * 24, (0,), row], NotReady, "row", row)
            self.check_error([(0,) * 24, row, (0,) * 24], NotReady, "row", row)

    def test_rows_somewhat_beyond_the_limit(self):
        with self.assertRaises(TooLong):
            join_rows((0,) * 25)
        long = (1,) * 25
        self.check_error([long], NotReady, "row", long)


class RepeatTest(unittest.TestCase):
    def test_equal_calls_return_equal_results(self):
        for ring in samples.long_rings():
            other = tuple(list(ring))
            self.assertEqual([beginnings(ring), units(ring)], [beginnings(other), units(other)])
            self.assertEqual(next_beginning(ring, 9), next_beginning(other, 9))


if __name__ == "__main__":
    unittest.main()

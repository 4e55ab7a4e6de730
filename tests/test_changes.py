"""Points 11 and 2 (e): what changes do to a ring and to its beginnings."""

import copy
import itertools
import unittest

from ringpostfix.beginnings import beginnings
from ringpostfix.changes import (
    added_beginning, lowered, raised, replaced, select, with_token, without_token,
)
from ringpostfix.effects import effect_of
from ringpostfix.errors import BadWish, LastToken, NoArity, NoPlace, NoProperty, OtherEffect, TooLong
from ringpostfix.links import free_places, lacks
from ringpostfix.rings import balance
import samples

SHORT = samples.short_rings()
LONG = samples.long_rings()
RINGS = SHORT + LONG
ROWS = [()] + [row for row in SHORT if len(row) < 4]

# The examples of the document, word for word.
EXAMPLES = [
    (
        "from ringpostfix.changes import lowered, raised",
        "[lowered((0, 0, 2, 0), 2), raised((0, 0, 2, 0), 3)]",
        "[(0, 0, 1, 0), (0, 0, 2, 1)]",
    ),
    (
        "from ringpostfix.changes import added_beginning",
        "[added_beginning((0, 0, 2, 0), 2), added_beginning((2, 0), 0), added_beginning((3, 0), 0)]",
        "[1, 1, None]",
    ),
    (
        "from ringpostfix.changes import with_token, without_token",
        "[with_token((0, 2), 2, 0), with_token((0, 2), 0, 1), without_token((0, 0, 2), 1)]",
        "[(0, 2, 0), (1, 0, 2), (0, 2)]",
    ),
    (
        "from ringpostfix.changes import replaced",
        "[replaced((0, 0, 2, 0), 0, 3, (0,)), replaced((0, 2, 0, 0), 3, 1, (0, 1))]",
        "[(0, 0), (0, 2, 0, 0, 1)]",
    ),
    (
        "from ringpostfix.changes import replaced",
        "replaced((0, 0, 2, 0), 0, 3, (1,))",
        "raises OtherEffect((1, 1))",
    ),
    (
        "from ringpostfix.changes import select\nR = (0, 0, 2, 0)",
        "[select(R, arity=0, free=True), select(R, beginning=False), select(R), select(R, arity=9)]",
        "[(3,), (1, 2), (0, 1, 2, 3), ()]",
    ),
]


def changed(ring, place, arity):
    """Return the ring with another arity at the place."""
    tokens = list(ring)
    tokens[place] = arity
    return tuple(tokens)


class ChangesCase(unittest.TestCase):
    def check_error(self, kind, fields, function, *arguments, **wanted):
        """Check that the call raises the error with the very objects as fields, and changes no argument."""
        before = copy.deepcopy((arguments, wanted))
        with self.subTest(function=function.__name__, arguments=arguments, wanted=wanted):
            with self.assertRaises(kind) as caught:
                function(*arguments, **wanted)
            self.assertIs(type(caught.exception), kind)
            for name, value in fields.items():
                self.assertIs(getattr(caught.exception, name), value)
            self.assertEqual(repr((arguments, wanted)), repr(before))

    def check_number(self, kind, field, number, function, *arguments):
        """Check that the call raises the error with exactly this integer."""
        with self.assertRaises(kind) as caught:
            function(*arguments)
        self.assertIs(type(caught.exception), kind)
        self.assertEqual(repr(getattr(caught.exception, field)), repr(number))


class ExamplesTest(unittest.TestCase):
    def test_examples(self):
        for source, expression, answer in EXAMPLES:
            with self.subTest(expression=expression):
                self.assertEqual(samples.shown(source, expression), answer)


class LoweredRaisedTest(ChangesCase):
    def test_every_place(self):
        for ring in RINGS:
            for place, arity in enumerate(ring):
                if arity > 0:
                    self.assertEqual(lowered(ring, place), changed(ring, place, arity - 1))
                    self.assertIs(type(lowered(ring, place)), tuple)
                if arity < 5:
                    self.assertEqual(raised(ring, place), changed(ring, place, arity + 1))
                    self.assertIs(type(raised(ring, place)), tuple)

    def test_no_arity_below_0(self):
        for ring, place in (((0,), 0), ((0, 0, 2, 0), 3), ((0,) * 24, 23)):
            self.check_number(NoArity, "value", -1, lowered, ring, place)
            self.check_number(NoArity, "value", -1, added_beginning, ring, place)

    def test_no_arity_above_5(self):
        for ring, place in (((5,), 0), ((0, 5, 2, 5), 3), ((5,) * 24, 23)):
            self.check_number(NoArity, "value", 6, raised, ring, place)

    def test_edges(self):
        self.assertEqual([lowered((arity,), 0) for arity in range(1, 6)], [(arity,) for arity in range(5)])
        self.assertEqual([raised((arity,), 0) for arity in range(5)], [(arity,) for arity in range(1, 6)])
        self.assertEqual(lowered((1,) * 24, 23), (1,) * 23 + (0,))
        self.assertEqual(raised((0,) * 24, 0), (1,) + (0,) * 23)

    def test_rings_somewhat_beyond_the_limit(self):
        self.assertEqual(lowered((1,) * 30, 29), (1,) * 29 + (0,))
        self.assertEqual(raised((1,) * 30, 0), (2,) + (1,) * 29)


class AddedBeginningTest(ChangesCase):
    def test_every_place(self):
        for ring in RINGS:
            before = beginnings(ring)
            for place, arity in enumerate(ring):
                if arity > 0:
                    after = beginnings(changed(ring, place, arity - 1))
                    added = [start for start in after if start not in before]
                    self.assertEqual([start for start in before if start not in after], [])
                    self.assertEqual(len(added), 1 if balance(ring) >= 0 else 0)
                    self.assertEqual(added_beginning(ring, place), added[0] if added else None)

    def test_edges(self):
        self.assertEqual([added_beginning((arity,), 0) for arity in range(1, 6)], [0, None, None, None, None])
        self.assertEqual([added_beginning((1,) * 24, place) for place in (0, 11, 23)], [0, 11, 23])
        self.assertIsNone(added_beginning((5,) * 24, 7))
        self.assertEqual(added_beginning((1,) + (0,) * 23, 0), 0)


class WithTokenTest(ChangesCase):
    def test_every_place_and_the_one_behind_the_last(self):
        for ring in SHORT[::3] + LONG:
            if len(ring) < 24:
                for place in range(len(ring) + 1):
                    for arity in range(6):
                        tokens = list(ring)
                        tokens.insert(place, arity)
                        self.assertEqual(with_token(ring, place, arity), tuple(tokens))
                        self.assertIs(type(with_token(ring, place, arity)), tuple)

    def test_rings_of_23_and_24_tokens(self):
        self.assertEqual(with_token((0,) * 23, 23, 5), (0,) * 23 + (5,))
        self.assertEqual(with_token((0,) * 23, 0, 5), (5,) + (0,) * 23)
        for place in range(25):
            for arity in (0, 5):
                self.check_number(TooLong, "limit", 24, with_token, (0,) * 24, place, arity)

    def test_no_place(self):
        for ring in ((0,), (0, 0, 2, 0), (2,) * 23, (0,) * 24):
            for value in samples.values_that_are_no_place(len(ring) + 1):
                self.check_error(NoPlace, {"value": value}, with_token, ring, value, 0)
            self.check_error(NoPlace, {"value": len(ring) + 1}, with_token, ring, len(ring) + 1, 5)


class WithoutTokenTest(ChangesCase):
    def test_every_place(self):
        for ring in RINGS:
            if len(ring) > 1:
                for place in range(len(ring)):
                    tokens = list(ring)
                    tokens.pop(place)
                    self.assertEqual(without_token(ring, place), tuple(tokens))
                    self.assertIs(type(without_token(ring, place)), tuple)

    def test_last_token(self):
        for arity in range(6):
            self.check_error(LastToken, {}, without_token, (arity,), 0)

    def test_no_place_comes_first(self):
        for value in samples.values_that_are_no_place(1):
            self.check_error(NoPlace, {"value": value}, without_token, (0,), value)

    def test_a_token_that_was_put_can_be_taken_away(self):
        for ring in SHORT[::7]:
            for place in range(len(ring) + 1):
                self.assertEqual(without_token(with_token(ring, place, 3), place), ring)


def stretches(ring):
    """Return (place, count) for all stretches of the ring, also those of no tokens."""
    return [(place, count) for place in range(len(ring)) for count in range(len(ring) - place + 1)]


class ReplacedTest(ChangesCase):
    def test_rows_with_the_same_effect_and_others(self):
        for ring in SHORT[::40]:
            for place, count in stretches(ring):
                effect = effect_of(ring[place:place + count])
                for row in ROWS[::3] + [(), (0,), (1,)]:
                    if effect_of(row) == effect:
                        tokens = ring[:place] + row + ring[place + count:]
                        self.assertEqual(replaced(ring, place, count, row), tokens)
                    else:
                        with self.assertRaises(OtherEffect) as caught:
                            replaced(ring, place, count, row)
                        self.assertIs(type(caught.exception), OtherEffect)
                        self.assertEqual(repr(caught.exception.effect), repr(effect_of(row)))

    def test_beginnings_outside_stay(self):
        rows = {}
        for row in ROWS:
            rows.setdefault(effect_of(row), []).append(row)
        for ring in SHORT[::11]:
            before = beginnings(ring)
            for place, count in stretches(ring):
                for row in rows.get(effect_of(ring[place:place + count]), [])[:6]:
                    after = beginnings(replaced(ring, place, count, row))
                    behind = place + len(row)
                    outside = [start for start in after if start < place]
                    outside += [start - len(row) + count for start in after if start >= behind]
                    wanted = [start for start in before if start < place or start >= place + count]
                    self.assertEqual(outside, wanted, (ring, place, count, row))

    def test_stretches_of_no_tokens(self):
        for ring in ((0,), (5,), (0, 0, 2, 0), (0,) * 24):
            for place in range(len(ring)):
                self.assertEqual(replaced(ring, place, 0, ()), ring)
                self.check_number(OtherEffect, "effect", (0, 1), replaced, ring, place, 0, (0,))
                self.check_number(OtherEffect, "effect", (1, 1), replaced, ring, place, 0, (1,))
        # A row that changes no number but needs a value is not the empty one either.
        self.check_number(OtherEffect, "effect", (1, 1), replaced, (1, 1), 1, 0, (1, 1))
        self.check_number(OtherEffect, "effect", (0, 0), replaced, (0, 2), 0, 1, ())

    def test_the_whole_ring(self):
        self.assertEqual(replaced((0, 0, 2), 0, 3, (0,)), (0,))
        self.assertEqual(replaced((0,), 0, 1, (0,) + (1,) * 23), (0,) + (1,) * 23)
        self.assertEqual(replaced((0,) + (1,) * 23, 0, 24, (0, 0, 2)), (0, 0, 2))
        self.assertEqual(replaced((1, 1, 0), 0, 2, (1,)), (1, 0))
        self.check_number(OtherEffect, "effect", (0, 0), replaced, (1, 1), 0, 2, ())

    def test_rows_that_leave_24_and_25_tokens(self):
        long = (0,) + (1,) * 22
        self.assertEqual(len(long), 23)
        self.assertEqual(replaced((0,) * 24, 23, 1, (0,)), (0,) * 24)
        self.assertEqual(replaced((0, 0), 1, 1, long), (0,) + long)
        self.assertEqual(replaced((0, 0), 0, 1, long), long + (0,))
        self.assertEqual(replaced((0,) * 23, 3, 1, (0, 1)), (0,) * 4 + (1,) + (0,) * 19)
        self.check_number(TooLong, "limit", 24, replaced, (0, 0, 0), 1, 1, long)
        self.check_number(TooLong, "limit", 24, replaced, (0,) * 24, 23, 1, (0, 1))
        self.check_number(TooLong, "limit", 24, replaced, (0, 0), 0, 1, (0,) + (1,) * 23)

    def test_another_effect_comes_before_the_length(self):
        self.check_number(OtherEffect, "effect", (0, 2), replaced, (0,) * 24, 23, 1, (0, 0))
        self.check_number(OtherEffect, "effect", (1, 1), replaced, (0,) * 24, 0, 0, (1,) * 24)

    def test_no_place_comes_first_whatever_the_count_is(self):
        for ring in ((0,), (0, 0, 2, 0), (0,) * 24):
            for value in samples.values_that_are_no_place(len(ring)):
                for count in (0, 1, 5, 100, -1):
                    for row in ((), (0,), (5,) * 24):
                        self.check_error(NoPlace, {"value": value}, replaced, ring, value, count, row)


class NoPlaceTest(ChangesCase):
    def test_every_other_value_raises_no_place_with_it(self):
        for ring in ((0,), (5,), (3, 0), (1, 1, 1), (0, 0, 2, 0), (0,) * 24, (5,) * 24):
            for function in (lowered, raised, added_beginning, without_token):
                for value in samples.values_that_are_no_place(len(ring)):
                    self.check_error(NoPlace, {"value": value}, function, ring, value)


NAMES = ("arity", "beginning", "free", "lacking")
# For each keyword some values that can be wanted, the last of them of no place of many a ring.
WISHES = {
    "arity": (0, 1, 2, 5, 6, -1, 10 ** 29, -(10 ** 29)),
    "beginning": (True, False),
    "free": (True, False),
    "lacking": (True, False),
}


def has_property(ring, place, name, value):
    """Return by the words of the document whether the place has the wanted property."""
    if name == "arity":
        return ring[place] == value
    if name == "beginning":
        return (place in beginnings(ring)) is value
    if name == "free":
        return (place in free_places(ring)) is value
    return (lacks(ring)[place] > 0) is value


class SelectTest(ChangesCase):
    def test_single_wishes(self):
        for ring in SHORT[::5] + LONG:
            self.assertEqual(select(ring), tuple(range(len(ring))))
            for name, values in WISHES.items():
                for value in values:
                    places = [place for place in range(len(ring)) if has_property(ring, place, name, value)]
                    self.assertEqual(select(ring, **{name: value}), tuple(places))
                    self.assertIs(type(select(ring, **{name: value})), tuple)

    def test_several_wishes_in_any_order(self):
        for ring in SHORT[::150] + LONG[::5]:
            for names in itertools.chain(itertools.permutations(NAMES, 2), itertools.permutations(NAMES, 4)):
                for values in itertools.product(*[WISHES[name][:3] for name in names]):
                    wanted = dict(zip(names, values))
                    places = [
                        place for place in range(len(ring))
                        if all(has_property(ring, place, name, value) for name, value in wanted.items())
                    ]
                    self.assertEqual(select(ring, **wanted), tuple(places), (ring, wanted))

    def test_lacking(self):
        self.assertEqual(select((3, 0), lacking=True), (0,))
        self.assertEqual(select((2, 2), lacking=True), (0, 1))
        self.assertEqual(select((0, 0, 2, 0), lacking=True), ())
        self.assertEqual(select((3, 0), lacking=False, arity=0), (1,))

    def test_names_of_no_property(self):
        for name in ("", "Arity", "arity ", "arities", "place", "beginnings", "lacks", "value", "wanted", "a b", "0"):
            for value in (True, 0, None, [1]):
                with self.assertRaises(NoProperty) as caught:
                    select((0, 0, 2, 0), **{name: value})
                self.assertIs(type(caught.exception), NoProperty)
                self.assertEqual(caught.exception.name, name)

    def test_first_name_of_no_property_in_the_order_of_the_call(self):
        for wanted, name in (
            ({"big": 1, "small": 2}, "big"), ({"small": 1, "big": 2}, "small"),
            ({"arity": 0, "zero": 1, "a": 2}, "zero"), ({"free": True, "b": 1, "arity": 0, "a": 0}, "b"),
        ):
            with self.assertRaises(NoProperty) as caught:
                select((0,), **wanted)
            self.assertEqual(caught.exception.name, name)

    def test_wishes_of_another_kind(self):
        for value in samples.any_values():
            for name in NAMES:
                right = type(value) is int if name == "arity" else type(value) is bool
                if right:
                    select((0, 0, 2, 0), **{name: value})
                else:
                    self.check_error(BadWish, {"value": value}, select, (0, 0, 2, 0), **{name: value})

    def test_numbers_are_no_bools_and_bools_no_numbers(self):
        for name in ("beginning", "free", "lacking"):
            for value in (0, 1):
                self.check_error(BadWish, {"value": value}, select, (0, 1), **{name: value})
        for value in (True, False):
            self.check_error(BadWish, {"value": value}, select, (0, 1), arity=value)

    def test_first_bad_wish_in_the_order_of_the_call(self):
        first, second = ["a"], ["a"]
        for names in itertools.permutations(NAMES, 2):
            wanted = {names[0]: first, names[1]: second}
            self.check_error(BadWish, {"value": first}, select, (0,), **wanted)
            with self.assertRaises(BadWish) as caught:
                select((0,), **wanted)
            self.assertIs(caught.exception.value, first)
        self.check_error(BadWish, {"value": None}, select, (0,), arity=0, free=None, beginning=1)

    def test_names_come_before_wishes(self):
        with self.assertRaises(NoProperty) as caught:
            select((0,), arity=None, free=0, big=True)
        self.assertEqual(caught.exception.name, "big")

    def test_wishes_that_no_place_has_do_not_hide_errors(self):
        self.check_error(BadWish, {"value": 1}, select, (0,), arity=9, free=1)
        with self.assertRaises(NoProperty):
            select((0,), arity=9, big=1)


class RepeatTest(unittest.TestCase):
    def test_equal_calls_return_equal_results(self):
        for ring in [ring for ring in LONG if len(ring) == 23]:
            other = tuple(list(ring))
            self.assertEqual(with_token(ring, 9, 3), with_token(other, 9, 3))
            self.assertEqual(without_token(ring, 9), without_token(other, 9))
            self.assertEqual(select(ring, free=True, arity=1), select(other, free=True, arity=1))
            for place, arity in enumerate(ring):
                self.assertEqual(replaced(ring, place, 1, (arity,)), replaced(other, place, 1, (arity,)))
                if arity > 0:
                    self.assertEqual(lowered(ring, place), lowered(other, place))
                    self.assertEqual(added_beginning(ring, place), added_beginning(other, place))
                if arity < 5:
                    self.assertEqual(raised(ring, place), raised(other, place))


if __name__ == "__main__":
    unittest.main()

"""Points 6 and 2 (d): effects."""

import copy
import itertools
import unittest

from ringpostfix.bounds import MAX_LENGTH
from ringpostfix.effects import effect_of, is_effect, join_effects, repeat_effect
import samples

GREAT = 10 ** 30 - 1
EFFECTS = list(itertools.product(range(4), repeat=2)) + [
    (0, GREAT), (GREAT, 0), (GREAT, GREAT), (GREAT, GREAT - 1), (GREAT - 1, GREAT), (10 ** 29, 3), (3, 10 ** 29),
]
ROWS = [()] + samples.all_rings()

# The examples of the document, word for word.
EXAMPLES = [
    (
        "from ringpostfix.effects import effect_of",
        "[effect_of((0, 0, 2)), effect_of((2, 2)), effect_of((1, 0)), effect_of(())]",
        "[(0, 1), (3, 1), (1, 2), (0, 0)]",
    ),
    (
        "from ringpostfix.effects import join_effects",
        "[join_effects((0, 1), (3, 1)), join_effects((1, 2), (1, 2), (2, 1)), join_effects()]",
        "[(2, 1), (1, 2), (0, 0)]",
    ),
    (
        "from ringpostfix.effects import repeat_effect",
        "[repeat_effect((1, 2), 10), repeat_effect((3, 1), 10), repeat_effect((3, 1), 0)]",
        "[(1, 11), (21, 1), (0, 0)]",
    ),
    (
        "from ringpostfix.effects import is_effect",
        "[is_effect((0, 1)), is_effect((0, -1)), is_effect((0, True)), is_effect([0, 1])]",
        "[True, False, False, False]",
    ),
]


def happens(effects, values):
    """Return how many values are left of so many, or None if an effect finds too few."""
    for needed, left in effects:
        if values < needed:
            return None
        values = values - needed + left
    return values


def tried_effect(effects):
    """Return the effect of small effects, found by trying it with more and more values."""
    values = 0
    while happens(effects, values) is None:
        values += 1
    return (values, happens(effects, values))


class ExamplesTest(unittest.TestCase):
    def test_examples(self):
        for source, expression, answer in EXAMPLES:
            with self.subTest(expression=expression):
                self.assertEqual(samples.shown(source, expression), answer)


class EffectOfTest(unittest.TestCase):
    def test_effect_is_found_by_trying(self):
        for row in ROWS:
            self.assertEqual(effect_of(row), tried_effect([(arity, 1) for arity in row]), row)

    def test_left_is_need_plus_balance(self):
        for row in ROWS:
            needed, left = effect_of(row)
            self.assertEqual(left - needed, len(row) - sum(row))

    def test_effect_is_that_of_its_stretches_joined(self):
        for row in ROWS:
            for first, second in itertools.combinations_with_replacement(range(len(row) + 1), 2):
                stretches = [effect_of(row[:first]), effect_of(row[first:second]), effect_of(row[second:])]
                self.assertEqual(join_effects(*stretches), effect_of(row))

    def test_edges(self):
        self.assertEqual([effect_of((arity,)) for arity in range(6)], [(arity, 1) for arity in range(6)])
        self.assertEqual(effect_of((0,) * 24), (0, 24))
        self.assertEqual(effect_of((5,) * 24), (97, 1))
        self.assertEqual(effect_of((1,) * 24), (1, 1))
        self.assertIs(type(effect_of(())), tuple)

    def test_rows_somewhat_beyond_the_limits(self):
        for row in ((0,) * 30, (7, 0, 9), (0, 2) * 20):
            self.assertEqual(effect_of(row), tried_effect([(arity, 1) for arity in row]))


class JoinEffectsTest(unittest.TestCase):
    def test_none_and_one(self):
        self.assertEqual(join_effects(), (0, 0))
        for effect in EFFECTS:
            self.assertEqual(join_effects(effect), effect)
            self.assertIs(type(join_effects(effect)), tuple)

    def test_two_by_the_words_of_the_document(self):
        for (a, b), (c, d) in itertools.product(EFFECTS, repeat=2):
            self.assertEqual(join_effects((a, b), (c, d)), (a + max(0, c - b), d + max(0, b - c)))

    def test_small_effects_are_found_by_trying(self):
        small = list(itertools.product(range(4), repeat=2))
        for many in range(4):
            for effects in itertools.product(small, repeat=many):
                self.assertEqual(join_effects(*effects), tried_effect(effects))

    def test_any_grouping(self):
        for first, second, third in itertools.product(EFFECTS, repeat=3):
            joined = join_effects(first, second, third)
            self.assertEqual(join_effects(join_effects(first, second), third), joined)
            self.assertEqual(join_effects(first, join_effects(second, third)), joined)

    def test_many(self):
        effects = [EFFECTS[step * 7 % len(EFFECTS)] for step in range(200)]
        for cut in (0, 1, 57, 199, 200):
            parts = [join_effects(*effects[:cut]), join_effects(*effects[cut:])]
            self.assertEqual(join_effects(*parts), join_effects(*effects))

    def test_the_empty_effect_changes_nothing(self):
        for effect in EFFECTS:
            self.assertEqual(join_effects((0, 0), effect), effect)
            self.assertEqual(join_effects(effect, (0, 0)), effect)


def doubled_effect(effect, times):
    """Return the effect so many times, by joining ever longer stretches with themselves."""
    whole = (0, 0)
    power = effect
    while times > 0:
        if times % 2 == 1:
            whole = join_effects(power, whole)
        power = join_effects(power, power)
        times //= 2
    return whole


class RepeatEffectTest(unittest.TestCase):
    def test_small_numbers_of_times(self):
        for effect in EFFECTS:
            for times in range(12):
                self.assertEqual(repeat_effect(effect, times), join_effects(*[effect] * times))
                self.assertIs(type(repeat_effect(effect, times)), tuple)

    def test_great_numbers_of_times(self):
        for effect in EFFECTS:
            for times in (999, 10 ** 6 + 1, MAX_LENGTH - 1, MAX_LENGTH):
                self.assertEqual(repeat_effect(effect, times), doubled_effect(effect, times))

    def test_edges(self):
        self.assertEqual(repeat_effect((GREAT, GREAT), 0), (0, 0))
        self.assertEqual(repeat_effect((GREAT, 7), 1), (GREAT, 7))
        self.assertEqual(repeat_effect((0, GREAT), MAX_LENGTH), (0, GREAT * MAX_LENGTH))
        self.assertEqual(repeat_effect((GREAT, 0), MAX_LENGTH), (GREAT * MAX_LENGTH, 0))
        self.assertEqual(repeat_effect((0, 0), MAX_LENGTH), (0, 0))
        self.assertEqual(repeat_effect((4, 4), MAX_LENGTH), (4, 4))

    def test_somewhat_beyond_the_limit(self):
        for effect in EFFECTS:
            self.assertEqual(repeat_effect(effect, MAX_LENGTH * 9 + 7), doubled_effect(effect, MAX_LENGTH * 9 + 7))

    def test_rows_that_are_repeated(self):
        for row in samples.short_rings()[::7]:
            for times in (0, 1, 2, 5):
                self.assertEqual(repeat_effect(effect_of(row), times), effect_of(row * times))


class IsEffectTest(unittest.TestCase):
    def check(self, value, answer):
        before = copy.deepcopy(value)
        with self.subTest(value=repr(value)[:80]):
            self.assertIs(is_effect(value), answer)
            self.assertEqual(repr(value), repr(before))

    def test_effects(self):
        for effect in EFFECTS:
            self.check(effect, True)
        for effect in ((10 ** 60, 0), (0, 10 ** 60), repeat_effect((0, GREAT), MAX_LENGTH), effect_of((3, 0))):
            self.check(effect, True)

    def test_other_values(self):
        for value in samples.any_values():
            self.check(value, False)

    def test_other_lengths_and_kinds(self):
        for value in ((0,), (0, 1, 2), ((0, 1),), (0, 1, None), [0, 1], {0: 0, 1: 1}, "01", b"01", {"0": 1, "1": 1}):
            self.check(value, False)

    def test_each_wrong_number(self):
        wrong = [item for item in samples.any_values() if type(item) is not int]
        for item in wrong + [-1, -(10 ** 29)]:
            self.check((item, 0), False)
            self.check((0, item), False)
            self.check((item, item), False)


class RepeatTest(unittest.TestCase):
    def test_equal_calls_return_equal_results(self):
        for effect in EFFECTS:
            other = tuple(list(effect))
            self.assertEqual(repeat_effect(effect, 17), repeat_effect(other, 17))
            self.assertEqual(join_effects(effect, effect), join_effects(other, other))
            self.assertEqual(is_effect(effect), is_effect(other))


if __name__ == "__main__":
    unittest.main()

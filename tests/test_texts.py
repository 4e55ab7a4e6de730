"""Point 16: texts of rings and places."""

import copy
import itertools
import unittest

from ringpostfix.errors import BadText
from ringpostfix.texts import parse_ring, places_text, ring_text
import samples

RINGS = samples.all_rings()

# The examples of the document, word for word.
EXAMPLES = [
    (
        "from ringpostfix.texts import places_text, ring_text",
        "[ring_text((0, 0, 2)), places_text((0, 12)), places_text(())]",
        "['0 0 2', '0 12', 'none']",
    ),
    (
        "from ringpostfix.texts import parse_ring",
        "parse_ring('0 6')",
        "raises BadText(1)",
    ),
]


class ExamplesTest(unittest.TestCase):
    def test_examples(self):
        for source, expression, answer in EXAMPLES:
            with self.subTest(expression=expression):
                self.assertEqual(samples.shown(source, expression), answer)


class RingTextTest(unittest.TestCase):
    def test_arities_with_one_space_between_two(self):
        for ring in RINGS:
            text = str(ring).replace(",", "").strip("()")
            self.assertEqual(ring_text(ring), text)

    def test_edges(self):
        self.assertEqual([ring_text((arity,)) for arity in range(6)], ["0", "1", "2", "3", "4", "5"])
        self.assertEqual(ring_text((5,) * 24), "5" + " 5" * 23)
        self.assertIs(type(ring_text((0,))), str)

    def test_rings_somewhat_beyond_the_limits(self):
        self.assertEqual(ring_text((0,) * 30), "0" + " 0" * 29)
        self.assertEqual(ring_text((12, 0)), "12 0")


class PlacesTextTest(unittest.TestCase):
    def test_places_with_one_space_between_two(self):
        for many in range(1, 5):
            for places in itertools.combinations((0, 1, 7, 9, 10, 12, 22, 23), many):
                self.assertEqual(places_text(places), str(places).replace(",", "").strip("()"))
        self.assertEqual(places_text(tuple(range(24))), str(list(range(24))).replace(",", "").strip("[]"))

    def test_edges(self):
        self.assertEqual([places_text(()), places_text((0,)), places_text((23,))], ["none", "0", "23"])
        self.assertEqual(places_text((10 ** 12,)), "1000000000000")


class ParseRingTest(unittest.TestCase):
    def check_error(self, text, index):
        before = copy.deepcopy(text)
        with self.subTest(text=repr(text)[:80]):
            with self.assertRaises(BadText) as caught:
                parse_ring(text)
            self.assertIs(type(caught.exception), BadText)
            self.assertEqual(repr(caught.exception.index), repr(index))
            self.assertEqual(repr(text), repr(before))

    def test_texts_of_rings(self):
        for ring in RINGS:
            self.assertEqual(parse_ring(ring_text(ring)), ring)
        self.assertIs(type(parse_ring("0")), tuple)
        self.assertEqual({type(arity) for arity in parse_ring("0 1 2 3 4 5")}, {int})

    def test_other_values(self):
        for value in samples.any_values():
            if isinstance(value, str):
                try:
                    ring = parse_ring(value)
                except BadText as error:
                    self.assertIs(type(error.index), int)
                else:
                    self.assertEqual(ring_text(ring), value)
            else:
                self.check_error(value, None)
        for value in (("0",), ["0"], (0,), {"0": 0}, 0, True, b"0", ["0 0 2"]):
            self.check_error(value, None)

    def test_empty_words(self):
        self.check_error("", 0)
        self.check_error(" ", 0)
        self.check_error(" 0", 0)
        self.check_error("0 ", 1)
        self.check_error("0  2", 1)
        self.check_error("0 0  2", 2)
        self.check_error("0 0 2 ", 3)
        self.check_error("0 0 2  ", 3)

    def test_words_that_are_no_arities(self):
        words = [
            "6", "9", "10", "00", "01", "05", "-1", "-0", "+0", "+1", "0x1", "1.0", "1e0", "1_0", "a", "none", "0,",
            "0\n", "\n0", "\n", "0\n0", "(0)", "True", "0" * 40, "\t0", "0\t",
        ]
        for word in words:
            self.check_error(word, 0)
            self.check_error("0 " + word, 1)
            self.check_error(word + " 0", 0)
            self.check_error("0 5 " + word + " 2 " + word, 2)
            self.check_error("0 " * 23 + word, 23)

    def test_other_digits(self):
        for word in ("\u0660", "\uff11", "\u00b2", "0\u0301"):
            self.check_error("0 " + word, 1)

    def test_24_and_25_words(self):
        self.assertEqual(parse_ring("0" + " 0" * 23), (0,) * 24)
        self.check_error("0" + " 0" * 24, 24)
        self.check_error("0" + " 0" * 500, 24)
        self.check_error("5 " * 24, 24)
        self.check_error("5 " * 24 + "x", 24)
        self.check_error("5 " * 23 + "x 5", 23)
        self.check_error("5 " * 23 + "6 x", 23)
        self.check_error("x" + " 0" * 500, 0)

    def test_other_signs_between_the_words(self):
        for text in ("0,0", "0\n0", "0\t0", "0;0", "0-0", "00"):
            self.check_error(text, 0)


class RepeatTest(unittest.TestCase):
    def test_equal_calls_return_equal_results(self):
        for ring in samples.long_rings():
            text = ring_text(ring)
            self.assertEqual(ring_text(tuple(list(ring))), text)
            self.assertEqual(parse_ring(text), parse_ring("".join(list(text))))


if __name__ == "__main__":
    unittest.main()

"""Points 10 and 2 (c): terms."""

import copy
import itertools
import unittest

from ringpostfix.beginnings import beginnings
from ringpostfix.errors import BadText, NoBeginning, NoPlace
from ringpostfix.links import free_places, givers
from ringpostfix.terms import parse_term, terms_from
import samples

SHORT = samples.short_rings()
RINGS = samples.all_rings()

# The examples of the document, word for word.
EXAMPLES = [
    (
        "from ringpostfix.terms import terms_from",
        "[terms_from((2, 0, 0, 0), ('f', 'x', 'y', 'z'), 1), terms_from((2, 0, 0, 0), ('f', 'x', 'y', 'z'), 2)]",
        "[('x', 'f(y, z)'), ('f(y, z)', 'x')]",
    ),
    (
        "from ringpostfix.terms import parse_term",
        "parse_term('f(x, g(y))')",
        "((0, 0, 1, 2), ('x', 'y', 'g', 'f'))",
    ),
]


def names_of(ring):
    """Return names for the tokens of a ring, all of them different, with 1 to 8 letters."""
    letters = "abcdefghijklmnopqrstuvwxyz"
    return tuple(letters[place % 26] * (1 + place % 8) for place in range(len(ring)))


def term_at(ring, names, place):
    """Return the term of a token by the words of the document."""
    if ring[place] == 0:
        return names[place]
    return names[place] + "(" + ", ".join(term_at(ring, names, at) for at in givers(ring, place)) + ")"


def term_of_tree(tree, names):
    """Return the term of a tree; the names of its nodes in the order of the row are taken from the list."""
    parts = [term_of_tree(child, names) for child in tree]
    name = names.pop(0)
    return name + "(" + ", ".join(parts) + ")" if parts else name


def row_of_tree(tree):
    """Return the row of a tree."""
    return tuple(arity for child in tree for arity in row_of_tree(child)) + (len(tree),)


class ExamplesTest(unittest.TestCase):
    def test_examples(self):
        for source, expression, answer in EXAMPLES:
            with self.subTest(expression=expression):
                self.assertEqual(samples.shown(source, expression), answer)


class TermsFromTest(unittest.TestCase):
    def test_terms_of_the_free_tokens_in_the_order_of_reading(self):
        for ring in RINGS:
            names = names_of(ring)
            free = free_places(ring)
            for place in beginnings(ring):
                order = [at for at in free if at >= place] + [at for at in free if at < place]
                terms = terms_from(ring, names, place)
                self.assertEqual(terms, tuple(term_at(ring, names, at) for at in order), (ring, place))
                self.assertIs(type(terms), tuple)

    def test_terms_from_all_beginnings_are_the_same_turned(self):
        for ring in RINGS:
            names = names_of(ring)
            starts = beginnings(ring)
            for index, place in enumerate(starts):
                first = terms_from(ring, names, starts[0])
                self.assertEqual(terms_from(ring, names, place), first[index:] + first[:index])

    def test_places_that_are_no_beginnings(self):
        for ring in SHORT[::3] + samples.long_rings():
            for place in range(len(ring)):
                if place not in beginnings(ring):
                    with self.assertRaises(NoBeginning) as caught:
                        terms_from(ring, names_of(ring), place)
                    self.assertIs(type(caught.exception), NoBeginning)
                    self.assertEqual(repr(caught.exception.value), repr(place))

    def test_no_place_comes_first(self):
        for ring in ((0,), (1,), (3, 0), (0, 0, 2, 0), (0,) * 24, (2,) * 24):
            for value in samples.values_that_are_no_place(len(ring)):
                before = copy.deepcopy(value)
                with self.subTest(ring=ring, value=value):
                    with self.assertRaises(NoPlace) as caught:
                        terms_from(ring, names_of(ring), value)
                    self.assertIs(type(caught.exception), NoPlace)
                    self.assertIs(caught.exception.value, value)
                    self.assertEqual(repr(value), repr(before))

    def test_edges(self):
        self.assertEqual(terms_from((0,), ("x",), 0), ("x",))
        self.assertEqual(terms_from((0,) * 24, ("abcdefgh",) * 24, 17), ("abcdefgh",) * 24)
        self.assertEqual(terms_from((1,) * 23 + (0,), ("f",) * 23 + ("x",), 23), ("f(" * 23 + "x" + ")" * 23,))
        self.assertEqual(terms_from((0,) * 5 + (5,), tuple("abcdef"), 0), ("f(a, b, c, d, e)",))
        self.assertEqual(terms_from((0, 5, 0, 0, 0, 0), tuple("abcdef"), 2), ("b(c, d, e, f, a)",))

    def test_names_may_be_equal(self):
        self.assertEqual(terms_from((0, 0, 2, 0), ("x",) * 4, 0), ("x(x, x)", "x"))

    def test_rings_somewhat_beyond_the_limits(self):
        self.assertEqual(terms_from((0,) * 7 + (7,), tuple("abcdefgh"), 0), ("h(a, b, c, d, e, f, g)",))
        self.assertEqual(terms_from((0,) * 30, ("x",) * 30, 29), ("x",) * 30)


SMALL_TREES = [tree for nodes in range(1, 7) for tree in samples.trees_of(nodes)]
LARGE_TREES = [
    samples.chain(23), samples.chain(24), samples.wide_tree(23), samples.wide_tree(24), (samples.chain(4),) * 5,
    (samples.chain(11), (), samples.wide_tree(11)), (samples.chain(22), ()),
]


class ParseTermTest(unittest.TestCase):
    def check_error(self, text, index=0):
        before = copy.deepcopy(text)
        with self.subTest(text=repr(text)[:80]):
            with self.assertRaises(BadText) as caught:
                parse_term(text)
            self.assertIs(type(caught.exception), BadText)
            self.assertEqual(repr(caught.exception.index), repr(index))
            self.assertEqual(repr(text), repr(before))

    def test_terms_of_all_trees(self):
        for tree in SMALL_TREES + LARGE_TREES:
            row = row_of_tree(tree)
            names = names_of(row)
            text = term_of_tree(tree, list(names))
            self.assertEqual(parse_term(text), (row, names))
            self.assertEqual(terms_from(row, names, 0), (text,))

    def test_kinds_of_the_result(self):
        result = parse_term("f(x)")
        self.assertEqual(result, ((0, 1), ("x", "f")))
        self.assertEqual([type(result), type(result[0]), type(result[1])], [tuple, tuple, tuple])
        self.assertEqual(parse_term("x"), ((0,), ("x",)))

    def test_other_values(self):
        for value in samples.any_values():
            self.check_error(value, 0 if isinstance(value, str) else None)
        for value in (("x",), ["x"], {"x": 0}, b"x", 0, True, (("x",),), ["f(x)"]):
            self.check_error(value, None)

    def test_names_of_one_eight_and_nine_letters(self):
        for letter in "abcdefghijklmnopqrstuvwxyz":
            self.assertEqual(parse_term(letter), ((0,), (letter,)))
        for many in range(1, 12):
            name = "abcdefghijkl"[:many]
            if many <= 8:
                self.assertEqual(parse_term(name), ((0,), (name,)))
                self.assertEqual(parse_term(name + "(x)"), ((0, 1), ("x", name)))
                self.assertEqual(parse_term("f(x, " + name + ")"), ((0, 0, 2), ("x", name, "f")))
            else:
                self.check_error(name)
                self.check_error(name + "(x)")
                self.check_error("f(x, " + name + ")")

    def test_signs_that_are_no_letters(self):
        signs = [chr(code) for code in range(32, 127) if not chr(code).islower()]
        for sign in signs + ["\n", "\t", "\u00e9", "\u00df"]:
            for text in (sign, "x" + sign, sign + "x", f"f({sign})", f"f(x{sign})", f"f{sign}(x)", f"f(x){sign}"):
                self.check_error(text)

    def test_blanks_and_commas(self):
        for text in (
            "f(x,y)", "f(x,  y)", "f(x , y)", "f( x, y)", "f(x, y )", "f (x, y)", "f(x, y) ", " f(x, y)", "f(x  y)",
            "f(x y)", "f(x,\ny)", "f(, x)", "f(x, )", "f(x,)", "f(,)", "f(, )", "f(x,, y)", "f(x, , y)", "x, y", "x,",
            ", x", "f(x), g(y)", "f(x),", "f(x);", "f(x; y)",
        ):
            self.check_error(text)

    def test_parentheses(self):
        for text in (
            "", "f(", "f)", "f()", "()", "(x)", "((x))", "f((x))", "f(x", "f(x))", "f(x, y", "f(g(x)", "f(g(x)))",
            "f(x)(y)", "f(x)y", "f(x)g(y)", "f(x, (y))", "f(x)(", "f(())", "f(g())", "f[x]", "f(x]", "f(x, g(y)",
            "f(x), y)", ")x(", "f(x))(", "(", ")", "(f(x)", "f(x, g(y), z", "x)", "x(y)z",
        ):
            self.check_error(text)

    def test_five_and_six_parts(self):
        parts = ["a", "b", "c", "d", "e", "h", "i"]
        for many in range(1, 8):
            text = "f(" + ", ".join(parts[:many]) + ")"
            if many <= 5:
                self.assertEqual(parse_term(text), ((0,) * many + (many,), tuple(parts[:many]) + ("f",)))
                self.assertEqual(parse_term(f"g({text})")[0], (0,) * many + (many, 1))
            else:
                self.check_error(text)
                self.check_error(f"g({text})")
                self.check_error(f"g({text}, x)")

    def test_24_and_25_tokens(self):
        for nodes in range(20, 30):
            for tree in (samples.chain(nodes), samples.wide_tree(nodes), (samples.chain(nodes - 2), ())):
                names = names_of(range(nodes))
                text = term_of_tree(tree, list(names))
                if nodes <= 24:
                    self.assertEqual(parse_term(text), (row_of_tree(tree), names))
                else:
                    self.check_error(text)

    def test_deep_and_long_texts(self):
        self.check_error("f(" * 660 + "x" + ")" * 660)
        self.check_error("f(" * 1000)
        self.check_error("(" * 2000)
        self.check_error(")" * 2000)
        self.check_error("f(" * 500 + ")" * 500)
        self.check_error("f(" * 24 + "x" + ")" * 24)
        self.check_error("x" * 2000)
        self.check_error("f(x" + ", x" * 600 + ")")
        self.check_error("f(" + "g(x), " * 300 + "x)")
        self.assertEqual(parse_term("f(" * 23 + "x" + ")" * 23), ((0,) + (1,) * 23, ("x",) + ("f",) * 23))
        self.check_error("f(" * 23 + "x" + ")" * 22)
        self.check_error("f(" * 23 + "x" + ")" * 24)

    def test_every_short_text(self):
        # A text is a term exactly if what is read from it is written as this very text.
        found = 0
        for many in range(1, 9):
            for signs in itertools.product("x(,) ", repeat=many):
                text = "".join(signs)
                try:
                    row, names = parse_term(text)
                except BadText as error:
                    self.assertEqual(error.index, 0)
                    self.assertNotIn(text, SHORT_TERMS)
                else:
                    self.assertEqual(terms_from(row, names, 0), (text,))
                    self.assertIn(text, SHORT_TERMS)
                    found += 1
        self.assertEqual(found, len(SHORT_TERMS))

    def test_one_sign_changed(self):
        text = "ff(x, g(y, zz), h(x))"
        for index in range(len(text)):
            for sign in ("", "x", "(", ")", ",", " ", "1"):
                changed = text[:index] + sign + text[index + 1:]
                try:
                    row, names = parse_term(changed)
                except BadText as error:
                    self.assertEqual(error.index, 0)
                else:
                    self.assertEqual(terms_from(row, names, 0), (changed,))


def short_terms(most):
    """Return all terms of at most so many signs whose names consist of the letter x."""
    terms = ["x" * many for many in range(1, most + 1)]
    parts = list(terms)
    for _ in range(most):
        heads = [name + "(" + ", ".join(row) + ")" for name in terms for many in (1, 2)
                 for row in itertools.product(parts, repeat=many) if len(name) + sum(map(len, row)) + 2 * many <= most]
        parts = sorted(set(parts + heads))
    return {part for part in parts if len(part) <= most}


SHORT_TERMS = short_terms(8)


class RepeatTest(unittest.TestCase):
    def test_equal_calls_return_equal_results(self):
        for tree in LARGE_TREES:
            names = names_of(row_of_tree(tree))
            text = term_of_tree(tree, list(names))
            self.assertEqual(parse_term(text), parse_term("".join(list(text))))
            self.assertEqual(terms_from(row_of_tree(tree), names, 0), terms_from(row_of_tree(tree), names, 0))


if __name__ == "__main__":
    unittest.main()

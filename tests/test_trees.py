"""Point 9: trees and their rows."""

import copy
import inspect
import itertools
import unittest

from ringpostfix.beginnings import beginnings
from ringpostfix.effects import effect_of
from ringpostfix.errors import NoBeginning, NoPlace, NoRows, NotReady, TooLong
from ringpostfix.rings import balance
from ringpostfix.trees import each_node, is_tree, ring_of_trees, row_trees, tree_row, trees_from
import samples

RINGS = samples.all_rings()
SMALL_TREES = [tree for nodes in range(1, 8) for tree in samples.trees_of(nodes)]
LARGE_TREES = [samples.chain(23), samples.chain(24), samples.wide_tree(23), samples.wide_tree(24)] + [
    (samples.chain(11), (), samples.wide_tree(11)), (samples.wide_tree(22),), (samples.chain(4),) * 5,
]
TREES = SMALL_TREES + LARGE_TREES
TOO_LARGE = [samples.chain(25), samples.wide_tree(25), samples.chain(40), (samples.wide_tree(24),)]

# The examples of the document, word for word.
EXAMPLES = [
    (
        "from ringpostfix.trees import is_tree",
        "[is_tree(()), is_tree(((), ())), is_tree(((), 0)), is_tree([])]",
        "[True, True, False, False]",
    ),
    (
        "from ringpostfix.trees import tree_row",
        "[tree_row(()), tree_row(((), ((),)))]",
        "[(0,), (0, 0, 1, 2)]",
    ),
    (
        "from ringpostfix.trees import row_trees",
        "row_trees((0, 0, 1, 2, 0))",
        "(((), ((),)), ())",
    ),
    (
        "from ringpostfix.trees import trees_from",
        "[trees_from((2, 0, 0, 0), 1), trees_from((2, 0, 0, 0), 2)]",
        "[((), ((), ())), (((), ()), ())]",
    ),
    (
        "from ringpostfix.trees import ring_of_trees",
        "ring_of_trees(((), ()), ())",
        "(0, 0, 2, 0)",
    ),
    (
        "from ringpostfix.trees import each_node",
        "list(each_node(((), ((),))))",
        "[((0,), 0), ((1, 0), 0), ((1,), 1), ((), 2)]",
    ),
]


def row_of(tree):
    """Return the row of a tree by the words of the document."""
    arities = []
    for child in tree:
        arities.extend(row_of(child))
    return tuple(arities) + (len(tree),)


def rows_of(trees):
    """Return the rows of several trees, one after the other."""
    return tuple(arity for tree in trees for arity in row_of(tree))


class ExamplesTest(unittest.TestCase):
    def test_examples(self):
        for source, expression, answer in EXAMPLES:
            with self.subTest(expression=expression):
                self.assertEqual(samples.shown(source, expression), answer)


class IsTreeTest(unittest.TestCase):
    def check(self, value, answer):
        before = repr(value)
        with self.subTest(value=before[:80]):
            self.assertIs(is_tree(value), answer)
            self.assertEqual(repr(value), before)

    def test_trees(self):
        for tree in TREES:
            self.check(tree, True)

    def test_number_of_nodes(self):
        self.assertEqual([len(row_of(tree)) for tree in LARGE_TREES], [23, 24, 23, 24, 24, 23, 21])
        for tree in TOO_LARGE:
            self.assertGreater(len(row_of(tree)), 24)
            self.check(tree, False)
        for nodes in range(1, 35):
            self.check(samples.chain(nodes), nodes <= 24)
            self.check(samples.wide_tree(nodes), nodes <= 24)
            self.check(((),) + (samples.chain(nodes),), nodes + 2 <= 24)

    def test_number_of_children(self):
        for many in range(9):
            self.check(((),) * many, many <= 5)
            self.check(((), ((),) * many), many <= 5)
        six = ((),) * 6
        for depth in range(16):
            self.check(six, False)
            six = (six,)

    def test_other_values(self):
        for value in samples.any_values():
            # The sample that nests tuples alone is a chain of 20 nodes, and the empty tuple is a tree.
            self.check(value, value == () and type(value) is tuple or value == samples.chain(20))

    def test_wrong_values_at_every_node(self):
        wrong = [None, True, False, 0, 1, "", "()", [], [()], {}, {"a": ()}, ((), 0), ([],)]
        for tree in SMALL_TREES[:40] + LARGE_TREES:
            for path, children in list(each_node(tree)):
                for value in wrong:
                    self.check(replaced(tree, path, value), False)

    def test_values_that_are_much_too_large(self):
        doubled = ()
        for _ in range(60):
            doubled = (doubled, doubled)
        self.assertIs(is_tree(doubled), False)
        self.assertIs(is_tree(((),) * 1000), False)
        self.assertIs(is_tree((0,) * 1000), False)
        self.assertIs(is_tree(samples.chain(5000)), False)


def replaced(tree, path, value):
    """Return the tree with the value at the node to which the path leads."""
    if path == ():
        return value
    at = path[0]
    return tree[:at] + (replaced(tree[at], path[1:], value),) + tree[at + 1:]


class TreeRowTest(unittest.TestCase):
    def test_rows(self):
        for tree in TREES:
            self.assertEqual(tree_row(tree), row_of(tree), tree)
            self.assertIs(type(tree_row(tree)), tuple)

    def test_effect_is_one_value(self):
        for tree in TREES:
            self.assertEqual(effect_of(tree_row(tree)), (0, 1))

    def test_each_row_with_that_effect_has_exactly_one_tree(self):
        for nodes in range(1, 7):
            rows = [row for row in itertools.product(range(6), repeat=nodes) if effect_of(row) == (0, 1)]
            self.assertEqual(sorted(tree_row(tree) for tree in samples.trees_of(nodes)), rows)

    def test_edges(self):
        self.assertEqual(tree_row(()), (0,))
        self.assertEqual(tree_row(samples.chain(24)), (0,) + (1,) * 23)
        self.assertEqual(tree_row(((),) * 5), (0, 0, 0, 0, 0, 5))
        self.assertEqual(tree_row((((), ()), (), ((),))), (0, 0, 2, 0, 0, 1, 3))

    def test_trees_somewhat_beyond_the_limit(self):
        for tree in TOO_LARGE + [((),) * 7]:
            self.assertEqual(tree_row(tree), row_of(tree))


class RowTreesTest(unittest.TestCase):
    def check_error(self, value):
        before = copy.deepcopy(value)
        with self.subTest(value=repr(value)[:80]):
            with self.assertRaises(NotReady) as caught:
                row_trees(value)
            self.assertIs(type(caught.exception), NotReady)
            self.assertIs(caught.exception.row, value)
            self.assertEqual(repr(value), repr(before))

    def test_one_tree(self):
        for tree in TREES:
            self.assertEqual(row_trees(row_of(tree)), (tree,))

    def test_all_rows(self):
        for row in RINGS:
            if samples.can_be_read(row):
                trees = row_trees(row)
                self.assertEqual(rows_of(trees), row)
                self.assertEqual(len(trees), balance(row))
                self.assertIs(type(trees), tuple)
                self.assertTrue(all(is_tree(tree) for tree in trees))
            else:
                with self.assertRaises(NotReady) as caught:
                    row_trees(row)
                self.assertIs(caught.exception.row, row)

    def test_other_values(self):
        for value in samples.any_values():
            self.check_error(value)

    def test_values_that_look_like_ready_rows(self):
        for value in ([0], [0, 0, 2], (False,), (0, True), (False, 0, 2), (0, 0, "2"), (0, None), (0, [0]), "0 0 2"):
            self.check_error(value)
        for value in ((-1,), (0, -1), (0,) * 6 + (6,), (0,) * 25, (0,) * 24 + (1,), (0,) * 1000, {0: 0}, ((0,),)):
            self.check_error(value)

    def test_trees_are_not_rows(self):
        for tree in LARGE_TREES + TOO_LARGE:
            self.check_error(tree)

    def test_edges(self):
        self.assertEqual(row_trees((0,)), ((),))
        self.assertEqual(row_trees((0,) * 24), ((),) * 24)
        self.assertEqual(row_trees((0,) + (1,) * 23), (samples.chain(24),))
        self.assertEqual(row_trees((0, 0, 1, 0, 0, 3)), ((), (((),), (), ())))


class TreesFromTest(unittest.TestCase):
    def test_every_place(self):
        for ring in RINGS:
            starts = beginnings(ring)
            for place in range(len(ring)):
                if place in starts:
                    trees = trees_from(ring, place)
                    self.assertEqual(rows_of(trees), ring[place:] + ring[:place])
                    self.assertEqual(len(trees), balance(ring))
                    self.assertIs(type(trees), tuple)
                else:
                    with self.assertRaises(NoBeginning) as caught:
                        trees_from(ring, place)
                    self.assertIs(type(caught.exception), NoBeginning)
                    self.assertIs(caught.exception.value, place)

    def test_trees_are_turned_with_the_beginning(self):
        for ring in RINGS:
            starts = beginnings(ring)
            for index, place in enumerate(starts):
                first = trees_from(ring, starts[0])
                self.assertEqual(trees_from(ring, place), first[index:] + first[:index])

    def test_every_other_value_raises_no_place_with_it(self):
        for ring in ((0,), (1,), (3, 0), (0, 0, 2, 0), (0,) * 24, (2,) * 24):
            for value in samples.values_that_are_no_place(len(ring)):
                before = copy.deepcopy(value)
                with self.subTest(ring=ring, value=value):
                    with self.assertRaises(NoPlace) as caught:
                        trees_from(ring, value)
                    self.assertIs(type(caught.exception), NoPlace)
                    self.assertIs(caught.exception.value, value)
                    self.assertEqual(repr(value), repr(before))

    def test_rings_somewhat_beyond_the_limits(self):
        self.assertEqual(trees_from((0,) * 30, 29), ((),) * 30)
        self.assertEqual(trees_from((7,) + (0,) * 8, 1), ((), ((),) * 7))


class RingOfTreesTest(unittest.TestCase):
    def test_rows_one_after_the_other(self):
        for trees in itertools.product(SMALL_TREES[:12], repeat=3):
            self.assertEqual(ring_of_trees(*trees), rows_of(trees))
            self.assertIs(type(ring_of_trees(*trees)), tuple)
        for tree in TREES:
            self.assertEqual(ring_of_trees(tree), row_of(tree))

    def test_trees_are_found_again(self):
        for trees in itertools.product(SMALL_TREES[:12], repeat=2):
            self.assertEqual(row_trees(ring_of_trees(*trees)), trees)
            self.assertEqual(trees_from(ring_of_trees(*trees), 0), trees)

    def test_without_trees(self):
        with self.assertRaises(NoRows) as caught:
            ring_of_trees()
        self.assertIs(type(caught.exception), NoRows)

    def test_length(self):
        self.assertEqual(ring_of_trees(*[()] * 24), (0,) * 24)
        self.assertEqual(ring_of_trees(samples.chain(23), ()), (0,) + (1,) * 22 + (0,))
        too_many = [[()] * 25, [samples.chain(24), ()], [(), samples.wide_tree(24)], [samples.chain(13)] * 2]
        for trees in too_many + [[tree] for tree in TOO_LARGE]:
            with self.assertRaises(TooLong) as caught:
                ring_of_trees(*trees)
            self.assertIs(type(caught.exception), TooLong)
            self.assertEqual(repr(caught.exception.limit), "24")


def nodes_of(tree, path):
    """Return the nodes of a tree in the order of its row, by the words of the document."""
    found = []
    for index, child in enumerate(tree):
        found.extend(nodes_of(child, path + (index,)))
    return found + [(path, len(tree))]


class EachNodeTest(unittest.TestCase):
    def test_paths_and_children(self):
        for tree in TREES + TOO_LARGE:
            self.assertEqual(list(each_node(tree)), nodes_of(tree, ()))

    def test_children_are_the_row(self):
        for tree in TREES:
            self.assertEqual(tuple(children for path, children in each_node(tree)), row_of(tree))

    def test_paths_lead_to_the_nodes(self):
        for tree in TREES:
            for path, children in each_node(tree):
                node = tree
                for index in path:
                    node = node[index]
                self.assertEqual(len(node), children)

    def test_it_is_a_generator(self):
        made = each_node(((), ()))
        self.assertTrue(inspect.isgenerator(made))
        self.assertEqual(next(made), ((0,), 0))
        self.assertEqual(next(made), ((1,), 0))
        self.assertEqual(next(made), ((), 2))
        self.assertEqual(list(made), [])

    def test_kinds_of_what_it_yields(self):
        for item in each_node(((), ((),))):
            self.assertIs(type(item), tuple)
            self.assertIs(type(item[0]), tuple)
            self.assertIs(type(item[1]), int)

    def test_edges(self):
        self.assertEqual(list(each_node(())), [((), 0)])
        self.assertEqual(list(each_node(samples.chain(24)))[0], ((0,) * 23, 0))
        self.assertEqual(list(each_node(samples.chain(24)))[23], ((), 1))


class RepeatTest(unittest.TestCase):
    def test_equal_calls_return_equal_results(self):
        for tree in LARGE_TREES:
            other = row_trees(tuple(list(row_of(tree))))[0]
            self.assertEqual([is_tree(tree), tree_row(tree)], [is_tree(other), tree_row(other)])
            self.assertEqual(list(each_node(tree)), list(each_node(other)))
            self.assertEqual(ring_of_trees(tree), ring_of_trees(other))


if __name__ == "__main__":
    unittest.main()

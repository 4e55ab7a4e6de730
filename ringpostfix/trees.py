"""Trees: what stands between two beginnings."""

from ringpostfix.beginnings import is_beginning, is_ready
from ringpostfix.bounds import MAX_ARITY, MAX_TOKENS
from ringpostfix.errors import NoBeginning, NoRows, NotReady, TooLong
from ringpostfix.rings import is_ring, turned


def is_tree(value):
    """Return whether any value is a tree."""
    waiting = [value]
    nodes = 0
    while waiting:
        node = waiting.pop()
        nodes += 1
        if nodes > MAX_TOKENS or not isinstance(node, tuple) or len(node) > MAX_ARITY:
            return False
        waiting.extend(node)
    return True


def listed_nodes(tree):
    """Return a list with (path, number of children) for each node, in the order of the row."""
    found = []
    waiting = [((), tree)]
    while waiting:
        path, node = waiting.pop()
        found.append((path, len(node)))
        for index, child in enumerate(node):
            waiting.append((path + (index,), child))
    # Each node was found before its children, and the last child first: the row backwards.
    return found[::-1]


def each_node(tree):
    """Yield (path, number of children) for each node, in the order of the row."""
    yield from listed_nodes(tree)


def tree_row(tree):
    """Return the row of a tree."""
    return tuple([children for path, children in listed_nodes(tree)])


def built_trees(row):
    """Return the tuple of the trees of a ready row."""
    trees = []
    for arity in row:
        first = len(trees) - arity
        children = tuple(trees[first:])
        del trees[first:]
        trees.append(children)
    return tuple(trees)


def row_trees(row):
    """Return the tuple of the trees of a ready row, which may be any value."""
    if not is_ring(row) or not is_ready(row):
        raise NotReady(row)
    return built_trees(row)


def trees_from(ring, place):
    """Return the tuple of the trees that are read from a beginning."""
    if not is_beginning(ring, place):
        raise NoBeginning(place)
    return built_trees(turned(ring, place))


def ring_of_trees(*trees):
    """Return the ring of the rows of all trees, one after the other."""
    if len(trees) == 0:
        raise NoRows()
    tokens = []
    for tree in trees:
        tokens.extend(tree_row(tree))
    if len(tokens) > MAX_TOKENS:
        raise TooLong(MAX_TOKENS)
    return tuple(tokens)

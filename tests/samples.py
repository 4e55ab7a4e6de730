"""Values and small functions that several tests use."""

import itertools


def shown(source, expression):
    """Return the last line of a session: the repr of the expression, or the error that it raises."""
    names = {}
    exec(source, names)
    try:
        return repr(eval(expression, names))
    except (ValueError, LookupError) as error:
        return "raises " + repr(error)


def any_values():
    """Return new values of every kind that point 3 names, none of them a ring."""
    deep = ()
    for _ in range(19):
        deep = (deep,)
    return [
        None, True, False, 0, 1, -1, 5, 6, 10 ** 29, -(10 ** 29), 10 ** 30 - 1,
        "", "0", "0 0 2", "line\nline", "~" * 2000,
        (), (None,), (True,), (False, 0), ("0",), (0, (0,)), (0, [0]), (0, {"a": 0}), deep, (0,) * 1000,
        [], [0], [0, 0, 2], [[0], [None, "a"]], list(range(1000)),
        {}, {"0": 0}, {"a": [1, {"b": (2, None)}]},
    ]


def values_that_are_no_place(many):
    """Return new values that are not the number of a place among so many tokens."""
    return [
        -1, many, many + 1, -many, True, False, None,
        "", "0", "place", (), (0,), [], [0], {}, {"0": 0}, 10 ** 29, -(10 ** 29), 10 ** 30 - 1,
    ]


def short_rings():
    """Return all rings of 1 to 4 tokens, and those of 5 with arities up to 3."""
    rings = []
    for many in range(1, 5):
        rings.extend(itertools.product(range(6), repeat=many))
    rings.extend(itertools.product(range(4), repeat=5))
    return rings


def long_rings():
    """Return rings of 23 and 24 tokens with balances above, at and below 0."""
    rings = [(0,) * 24, (1,) * 24, (5,) * 24, (0, 2) * 12, (0,) * 12 + (2,) * 12, (2,) * 12 + (0,) * 12]
    rings.append((0,) * 19 + (4, 5, 0, 3, 2))
    rings.append((5,) + (0,) * 22)
    state = 1
    for many in (23, 24) * 20:
        ring = []
        for _ in range(many):
            state = state * 1103515245 % 2147483647 + 12345
            ring.append((0, 0, 0, 1, 1, 2, 2, 3, 4, 5)[state // 1000 % 10])
        rings.append(tuple(ring))
    return rings


def all_rings():
    """Return the short rings and the long ones."""
    return short_rings() + long_rings()


def can_be_read(row):
    """Return whether no token of the row finds too few values, with none at first."""
    values = 0
    for arity in row:
        if values < arity:
            return False
        values += 1 - arity
    return True


def endless_reading(ring, start, times):
    """Read the ring so many times from a place, with enough values on the stack at first.

    Return (taken, stack). taken has a tuple (place, givers, initial) for each token that is read:
    givers are the values (reading, place) that it takes, the lowest one first, and initial is the
    number of those it takes that were on the stack at first. stack has the values that are left
    of those that were put, the lowest one first.
    """
    taken = []
    stack = []
    for step in range(times * len(ring)):
        place = (start + step) % len(ring)
        many = min(ring[place], len(stack))
        taken.append((place, tuple(stack[len(stack) - many:]), ring[place] - many))
        stack = stack[:len(stack) - many] + [(step // len(ring), place)]
    return taken, stack


def trees_of(nodes):
    """Return all trees of exactly so many nodes, with at most 5 children each."""
    return [tuple(row) for many in range(6) for row in tree_rows_of(nodes - 1, many)]


def tree_rows_of(nodes, many):
    """Return all lists of so many trees that have so many nodes together."""
    if many == 0:
        return [[]] if nodes == 0 else []
    rows = []
    for first in range(1, nodes - many + 2):
        for tree in trees_of(first):
            rows.extend([tree] + rest for rest in tree_rows_of(nodes - first, many - 1))
    return rows


def chain(nodes):
    """Return the tree of so many nodes in which no node has two children."""
    tree = ()
    for _ in range(nodes - 1):
        tree = (tree,)
    return tree


def wide_tree(nodes):
    """Return a tree of so many nodes: 5 children for the first, 5 for its last one, and so on."""
    if nodes <= 6:
        return ((),) * (nodes - 1)
    return ((),) * 4 + (wide_tree(nodes - 5),)

"""Values that several tests use."""

import itertools


def any_values():
    """Return new values of every kind that point 3 names, none of them a ring."""
    deep = ()
    for _ in range(19):
        deep = (deep,)
    return [
        None, True, False, 0, 1, -1, 5, 6, 10 ** 29, -(10 ** 29), 10 ** 30 - 1,
        "", "0", "0 0 2", "line\nline", "~" * 2000,
        (), (None,), (True,), (False, 0), ("0",), (0, (0,)), (0, [0]), (0, {"a": 0}), deep, (0,) * 1000,
        [], [0], [0, 0, 2], [[0], [None, "a"]], list(range(1000)),
        {}, {"0": 0}, {"a": [1, {"b": (2, None)}]},
    ]


def values_that_are_no_place(many):
    """Return new values that are not the number of a place among so many tokens."""
    return [
        -1, many, many + 1, -many, True, False, None,
        "", "0", "place", (), (0,), [], [0], {}, {"0": 0}, 10 ** 29, -(10 ** 29), 10 ** 30 - 1,
    ]


def short_rings():
    """Return all rings of 1 to 4 tokens, and those of 5 with arities up to 3."""
    rings = []
    for many in range(1, 5):
        rings.extend(itertools.product(range(6), repeat=many))
    rings.extend(itertools.product(range(4), repeat=5))
    return rings


def long_rings():
    """Return rings of 23 and 24 tokens with balances above, at and below 0."""
    rings = [(0,) * 24, (1,) * 24, (5,) * 24, (0, 2) * 12, (0,) * 12 + (2,) * 12, (2,) * 12 + (0,) * 12]
    rings.append((0,) * 19 + (4, 5, 0, 3, 2))
    rings.append((5,) + (0,) * 22)
    state = 1
    for many in (23, 24) * 20:
        ring = []
        for _ in range(many):
            state = state * 1103515245 % 2147483647 + 12345
            ring.append((0, 0, 0, 1, 1, 2, 2, 3, 4, 5)[state // 1000 % 10])
        rings.append(tuple(ring))
    return rings


def all_rings():
    """Return the short rings and the long ones."""
    return short_rings() + long_rings()

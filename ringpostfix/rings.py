"""Rings of tokens, and what it takes to read them from a place."""

from ringpostfix.bounds import MAX_ARITY, MAX_TOKENS
from ringpostfix.checks import is_index
from ringpostfix.errors import NoPlace


def is_arity(value):
    """Return whether any value is an arity."""
    return is_index(value, MAX_ARITY + 1)


def ring_error(value):
    """Return None if any value is a ring, otherwise the first reason why it is not."""
    if not isinstance(value, tuple):
        return (None, "tuple")
    if not 1 <= len(value) <= MAX_TOKENS:
        return (None, "length")
    for index, item in enumerate(value):
        if not is_arity(item):
            return (index, "arity")
    return None


def is_ring(value):
    """Return whether any value is a ring."""
    return ring_error(value) is None


def check_place(ring, place):
    """Raise NoPlace unless any value is the number of a place of the ring."""
    if not is_index(place, len(ring)):
        raise NoPlace(place)


def balance(row):
    """Return the number of the tokens minus the sum of their arities."""
    return len(row) - sum(row)


def turned(ring, place):
    """Return the ring as it is read from the place."""
    check_place(ring, place)
    return ring[place:] + ring[:place]


def heights(ring, place):
    """Return the heights after the tokens, as they are read from the place."""
    found = []
    height = 0
    for arity in turned(ring, place):
        height += 1 - arity
        found.append(height)
    return tuple(found)


def need(ring, place):
    """Return the least number of values with which no token from the place on finds too few."""
    # A token leaves at least its own value, so a lowest height below 1 tells what is missing.
    return max(0, 1 - min(heights(ring, place)))


def best_place(ring):
    """Return the lowest place that has the least need, and that need."""
    needs = [need(ring, place) for place in range(len(ring))]
    least = min(needs)
    return (needs.index(least), least)

"""Which token takes the value of which, when a ring is read without an end."""

from ringpostfix.checks import is_plain_integer
from ringpostfix.rings import check_place


def found_taker(ring, place):
    """Return the place of the token that takes the value of the token at a place, or None."""
    # How deep the value lies in the stack: 1 is the top.
    depth = 1
    for step in range(1, len(ring) + 1):
        at = (place + step) % len(ring)
        if ring[at] >= depth:
            return at
        depth = depth - ring[at] + 1
    return None


def all_takers(ring):
    """Return the tuple of the takers of all tokens, None for each free one."""
    return tuple([found_taker(ring, place) for place in range(len(ring))])


def taker(ring, place):
    """Return the place of the taker of the token at the place, or None if it is free."""
    check_place(ring, place)
    return found_taker(ring, place)


def givers(ring, place):
    """Return the places of the givers, the one of the topmost value last."""
    check_place(ring, place)
    takers = all_takers(ring)
    # The token itself was read before all others, so its value lies below theirs.
    readings = [(place + step) % len(ring) for step in range(len(ring))]
    return tuple([at for at in readings if takers[at] == place])


def lacks(ring):
    """Return the number of values that each token lacks."""
    takers = all_takers(ring)
    return tuple([arity - takers.count(place) for place, arity in enumerate(ring)])


def free_places(ring):
    """Return the ascending tuple of the places of the free tokens."""
    takers = all_takers(ring)
    return tuple([place for place in range(len(ring)) if takers[place] is None])


def is_same_link(value, link):
    """Return whether any value is the link, which is a place or None."""
    if link is None:
        return value is None
    return is_plain_integer(value) and value == link


def links_hold(ring, value):
    """Return whether any value is the tuple of the takers of all tokens, in order."""
    if not isinstance(value, tuple) or len(value) != len(ring):
        return False
    for item, link in zip(value, all_takers(ring)):
        if not is_same_link(item, link):
            return False
    return True

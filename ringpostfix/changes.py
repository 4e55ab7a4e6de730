"""What becomes of a ring when a token, or a stretch of tokens, is changed."""

from ringpostfix.beginnings import beginnings
from ringpostfix.bounds import MAX_ARITY, MAX_TOKENS
from ringpostfix.checks import is_index, is_plain_integer
from ringpostfix.effects import effect_of
from ringpostfix.errors import BadWish, LastToken, NoArity, NoPlace, NoProperty, OtherEffect, TooLong
from ringpostfix.links import free_places, lacks
from ringpostfix.rings import check_place

PROPERTIES = ("arity", "beginning", "free", "lacking")


def check_gap(ring, place):
    """Raise NoPlace unless any value is a place of the ring or the number of its tokens."""
    if not is_index(place, len(ring) + 1):
        raise NoPlace(place)


def with_arity(ring, place, arity):
    """Return the ring with another arity at the place."""
    return ring[:place] + (arity,) + ring[place + 1:]


def lowered(ring, place):
    """Return the ring with the arity at the place decreased by 1."""
    check_place(ring, place)
    if ring[place] == 0:
        raise NoArity(-1)
    return with_arity(ring, place, ring[place] - 1)


def raised(ring, place):
    """Return the ring with the arity at the place increased by 1."""
    check_place(ring, place)
    if ring[place] == MAX_ARITY:
        raise NoArity(MAX_ARITY + 1)
    return with_arity(ring, place, ring[place] + 1)


def added_beginning(ring, place):
    """Return the beginning that lowering the token at the place adds, or None."""
    before = beginnings(ring)
    for start in beginnings(lowered(ring, place)):
        if start not in before:
            return start
    return None


def with_token(ring, place, arity):
    """Return the ring with a further token at the place, which may also be behind the last one."""
    check_gap(ring, place)
    if len(ring) >= MAX_TOKENS:
        raise TooLong(MAX_TOKENS)
    return ring[:place] + (arity,) + ring[place:]


def without_token(ring, place):
    """Return the ring without the token at the place."""
    check_place(ring, place)
    if len(ring) == 1:
        raise LastToken()
    return ring[:place] + ring[place + 1:]


def replaced(ring, place, count, row):
    """Return the ring with a row of the same effect in the place of so many tokens."""
    check_place(ring, place)
    effect = effect_of(row)
    if effect != effect_of(ring[place:place + count]):
        raise OtherEffect(effect)
    tokens = ring[:place] + row + ring[place + count:]
    if len(tokens) > MAX_TOKENS:
        raise TooLong(MAX_TOKENS)
    return tokens


def is_wish(name, value):
    """Return whether any value can be wanted of the property with this name."""
    if name == "arity":
        return is_plain_integer(value)
    return isinstance(value, bool)


def properties(ring):
    """Return for the name of each property what holds at each place."""
    starts = beginnings(ring)
    free = free_places(ring)
    return {
        "arity": ring,
        "beginning": [place in starts for place in range(len(ring))],
        "free": [place in free for place in range(len(ring))],
        "lacking": [missing > 0 for missing in lacks(ring)],
    }


def select(ring, **wanted):
    """Return the ascending tuple of the places that have all wanted properties."""
    for name in wanted:
        if name not in PROPERTIES:
            raise NoProperty(name)
    for name, value in wanted.items():
        if not is_wish(name, value):
            raise BadWish(value)
    told = properties(ring)
    places = list(range(len(ring)))
    for name, value in wanted.items():
        places = [place for place in places if told[name][place] == value]
    return tuple(places)

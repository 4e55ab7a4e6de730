"""Texts of rings and of places."""

from ringpostfix.bounds import MAX_ARITY, MAX_TOKENS
from ringpostfix.errors import BadText


def ring_text(ring):
    """Return the text of a ring."""
    return " ".join([str(arity) for arity in ring])


def places_text(places):
    """Return the text of a tuple of places."""
    if len(places) == 0:
        return "none"
    return " ".join([str(place) for place in places])


def parse_ring(text):
    """Return the ring whose text any value is."""
    if not isinstance(text, str):
        raise BadText(None)
    arities = {str(arity): arity for arity in range(MAX_ARITY + 1)}
    tokens = []
    for index, word in enumerate(text.split(" ")):
        if index >= MAX_TOKENS or word not in arities:
            raise BadText(index)
        tokens.append(arities[word])
    return tuple(tokens)

"""What the edits of a reel do to a ring. Their arguments may be any values."""

from ringpostfix.changes import check_gap, with_arity, with_token, without_token
from ringpostfix.errors import NoArity
from ringpostfix.rings import check_place, is_arity


def check_arity(arity):
    """Raise NoArity unless any value is an arity."""
    if not is_arity(arity):
        raise NoArity(arity)


def put_token(ring, place, arity):
    """Return the ring with another arity at the place."""
    check_place(ring, place)
    check_arity(arity)
    return with_arity(ring, place, arity)


def insert_token(ring, place, arity):
    """Return the ring with a further token at the place."""
    # A wrong place and a wrong arity come before a ring that is full.
    check_gap(ring, place)
    check_arity(arity)
    return with_token(ring, place, arity)


def edited(ring, edit):
    """Return the ring after an edit (word, ...)."""
    if edit[0] == "put":
        return put_token(ring, edit[1], edit[2])
    if edit[0] == "insert":
        return insert_token(ring, edit[1], edit[2])
    return without_token(ring, edit[1])

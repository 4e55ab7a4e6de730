"""The places of a ring from which one can read without a value on the stack."""

from ringpostfix.bounds import MAX_TOKENS
from ringpostfix.errors import NoRows, NotReady, TooLong
from ringpostfix.rings import check_place, need


def is_beginning(ring, place):
    """Return whether the place is a beginning of the ring; raise NoPlace unless it is a place."""
    return need(ring, place) == 0


def is_ready(row):
    """Return whether the row is ready."""
    return len(row) > 0 and is_beginning(row, 0)


def beginnings(ring):
    """Return the ascending tuple of the beginnings."""
    return tuple([place for place in range(len(ring)) if is_beginning(ring, place)])


def count_beginnings(ring):
    """Return the number of the beginnings."""
    return len(beginnings(ring))


def next_beginning(ring, place):
    """Return the first beginning from the place on, going round, or None."""
    check_place(ring, place)
    for step in range(len(ring)):
        at = (place + step) % len(ring)
        if is_beginning(ring, at):
            return at
    return None


def units(ring):
    """Return (beginning, length) for each unit, in ascending order."""
    starts = beginnings(ring)
    found = []
    for index, start in enumerate(starts):
        after = starts[(index + 1) % len(starts)]
        # The only beginning is its own next one, and its unit is the whole ring, not nothing.
        found.append((start, (after - start - 1) % len(ring) + 1))
    return tuple(found)


def join_rows(*rows):
    """Return the ring of the tokens of all rows, one row after the other."""
    if len(rows) == 0:
        raise NoRows()
    tokens = []
    for row in rows:
        if not is_ready(row):
            raise NotReady(row)
        tokens.extend(row)
    if len(tokens) > MAX_TOKENS:
        raise TooLong(MAX_TOKENS)
    return tuple(tokens)

"""Far rings: rings of up to 10 ** 12 tokens, written as runs of tokens with the same arity."""

from ringpostfix.bounds import MAX_LENGTH, MAX_RUNS, MAX_TOKENS
from ringpostfix.checks import is_count, is_index
from ringpostfix.effects import join_effects, repeat_effect
from ringpostfix.errors import NoIndex, NoPlace, TooLong
from ringpostfix.rings import is_arity


def is_run(value):
    """Return whether any value is a run."""
    if not isinstance(value, tuple) or len(value) != 2:
        return False
    return is_arity(value[0]) and is_count(value[1]) and value[1] > 0


def is_far_ring(value):
    """Return whether any value is a far ring."""
    if not isinstance(value, tuple) or not 1 <= len(value) <= MAX_RUNS:
        return False
    return all([is_run(item) for item in value]) and far_length(value) <= MAX_LENGTH


def far_length(far):
    """Return the number of the tokens."""
    return sum([count for arity, count in far])


def far_balance(far):
    """Return the balance."""
    return sum([count * (1 - arity) for arity, count in far])


def far_effect(far):
    """Return the effect of the tokens as they are read from position 0."""
    effects = [repeat_effect((arity, 1), count) for arity, count in far]
    return join_effects(*effects)


def check_position(far, position):
    """Raise NoPlace unless any value is a position of the far ring."""
    if not is_index(position, far_length(far)):
        raise NoPlace(position)


def runs_from(far, position):
    """Return the runs as they are read from a position, or from behind the last token.

    A run around the position is split, so a run of the result may be empty.
    """
    earlier = []
    later = []
    start = 0
    for arity, count in far:
        passed = min(max(position - start, 0), count)
        earlier.append((arity, passed))
        later.append((arity, count - passed))
        start += count
    return tuple(later + earlier)


def far_need(far, position):
    """Return the need of the position."""
    check_position(far, position)
    return far_effect(runs_from(far, position))[0]


def beginnings_in_run(far, index):
    """Return how many tokens of the run with the index, its first ones, are beginnings."""
    arity, count = far[index]
    if arity > 0:
        return 0
    needed = far_effect(far[index + 1:] + far[:index])[0]
    # A token of the run is a beginning if it and those behind it in the run put what the rest of
    # the ring needs; the last one also is if the rest needs nothing.
    return max(0, count - max(0, needed - 1))


def far_beginnings(far):
    """Return the beginnings as ascending ranges (first, last)."""
    ranges = []
    start = 0
    for index, (arity, count) in enumerate(far):
        many = beginnings_in_run(far, index)
        if many > 0:
            first = start
            # A range may go on from one run to the next.
            if ranges and ranges[-1][1] == start - 1:
                first = ranges.pop()[0]
            ranges.append((first, start + many - 1))
        start += count
    return tuple(ranges)


def beginning_at(far, index):
    """Return the beginning with this index, which may be any value."""
    if is_count(index):
        rest = index
        for first, last in far_beginnings(far):
            if rest <= last - first:
                return first + rest
            rest = rest - (last - first + 1)
    raise NoIndex(index)


def taking_step(arity, depth):
    """Return which token of an endless run, from 0, takes the value at a depth, or None."""
    if arity >= depth:
        return 0
    if arity < 2:
        return None
    # Each token brings the value nearer by one less than its arity; the quotient is rounded up.
    return -((arity - depth) // (arity - 1))


def far_taker(far, position):
    """Return the position of the taker of the token at the position, or None if it is free."""
    check_position(far, position)
    # How deep the value lies in the stack: 1 is the top.
    depth = 1
    at = position + 1
    for arity, count in runs_from(far, position + 1):
        step = taking_step(arity, depth)
        if step is not None and step < count:
            return (at + step) % far_length(far)
        depth = depth + count * (1 - arity)
        at = at + count
    return None


def unrolled(far):
    """Return the ring for which the far ring stands."""
    if far_length(far) > MAX_TOKENS:
        raise TooLong(MAX_TOKENS)
    tokens = []
    for arity, count in far:
        tokens.extend([arity] * count)
    return tuple(tokens)

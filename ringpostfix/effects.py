"""Effects: how many values a stretch of tokens needs, and how many it leaves."""

from ringpostfix.checks import is_count

NOTHING = (0, 0)


def is_effect(value):
    """Return whether any value is an effect."""
    if not isinstance(value, tuple) or len(value) != 2:
        return False
    return is_count(value[0]) and is_count(value[1])


def join_two(first, second):
    """Return the effect of two effects, one after the other."""
    needed, left = first
    wanted, given = second
    return (needed + max(0, wanted - left), given + max(0, left - wanted))


def join_effects(*effects):
    """Return the effect of all effects, one after the other."""
    joined = NOTHING
    for effect in effects:
        joined = join_two(joined, effect)
    return joined


def effect_of(row):
    """Return the effect of a row."""
    joined = NOTHING
    for arity in row:
        joined = join_two(joined, (arity, 1))
    return joined


def repeat_effect(effect, times):
    """Return the effect so many times one after the other."""
    if times == 0:
        return NOTHING
    needed, left = effect
    # Each further time either needs or leaves what the times before did not balance.
    further = (times - 1) * (left - needed)
    return (needed + max(0, -further), left + max(0, further))

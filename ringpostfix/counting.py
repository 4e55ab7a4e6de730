"""The rows with given numbers of tokens of each arity, and the ready ones among them."""

from ringpostfix.beginnings import is_ready
from ringpostfix.checks import is_index
from ringpostfix.errors import NoIndex, NotReady
from ringpostfix.rings import balance


def count_rows(counts):
    """Return the number of the rows of the counts."""
    rows = 1
    placed = 0
    for many in counts:
        # The tokens of one arity after those of the lower ones: each division leaves no rest.
        for number in range(1, many + 1):
            placed += 1
            rows = rows * placed // number
    return rows


def count_ready(counts):
    """Return the number of the ready rows of the counts."""
    tokens = sum(counts)
    left = tokens - sum([arity * many for arity, many in enumerate(counts)])
    if left <= 0:
        return 0
    return count_rows(counts) * left // tokens


def longer_rows(row, rest):
    """Return (row, rest) with one more token of the rest, in ascending order.

    Only tokens that find enough values behind the row are taken.
    """
    height = balance(row)
    found = []
    for arity, many in enumerate(rest):
        if many > 0 and arity <= height:
            found.append((row + (arity,), rest[:arity] + (many - 1,) + rest[arity + 1:]))
    return found


def count_further(row, rest, known):
    """Return in how many orders the tokens of the rest can be read behind the row."""
    if sum(rest) == 0:
        return 1
    # All rows have the same tokens, so what is left of them tells the height behind the row, too.
    if rest not in known:
        known[rest] = sum([count_further(longer, fewer, known) for longer, fewer in longer_rows(row, rest)])
    return known[rest]


def ready_at(counts, index):
    """Return the ready row of the counts with this index, which may be any value."""
    if is_index(index, count_ready(counts)):
        known = {}
        waiting = [((), counts)]
        left = index
        while waiting:
            row, rest = waiting.pop()
            many = count_further(row, rest, known)
            if left >= many:
                left -= many
            elif sum(rest) == 0:
                return row
            else:
                waiting.extend(longer_rows(row, rest)[::-1])
    raise NoIndex(index)


def ready_index(row):
    """Return the index of the row among the ready rows with its counts."""
    if not is_ready(row):
        raise NotReady(row)
    known = {}
    waiting = [((), tuple([row.count(arity) for arity in range(max(row) + 1)]))]
    index = 0
    while waiting:
        before, rest = waiting.pop()
        if before == row:
            break
        if before == row[:len(before)]:
            waiting.extend(longer_rows(before, rest)[::-1])
        else:
            index += count_further(before, rest, known)
    return index


def each_ready(counts):
    """Yield the ready rows of the counts in ascending order."""
    # With a ready row each start can be completed; without one the search would be in vain.
    waiting = [((), counts)] if count_ready(counts) > 0 else []
    while waiting:
        row, rest = waiting.pop()
        if sum(rest) == 0:
            yield row
        else:
            waiting.extend(longer_rows(row, rest)[::-1])

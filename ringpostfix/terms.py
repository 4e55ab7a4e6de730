"""Terms: programs written with names, parentheses and commas."""

from ringpostfix.beginnings import is_beginning
from ringpostfix.bounds import MAX_ARITY, MAX_TOKENS
from ringpostfix.errors import BadText, NoBeginning
from ringpostfix.rings import turned

LETTERS = "abcdefghijklmnopqrstuvwxyz"
MAX_LETTERS = 8


def term_of(name, parts):
    """Return the term of a token with the terms of its givers."""
    if len(parts) == 0:
        return name
    return name + "(" + ", ".join(parts) + ")"


def terms_from(ring, names, place):
    """Return the terms that are left, the lowest one first, if the ring is read from a beginning."""
    if not is_beginning(ring, place):
        raise NoBeginning(place)
    terms = []
    for arity, name in zip(turned(ring, place), turned(names, place)):
        first = len(terms) - arity
        term = term_of(name, terms[first:])
        del terms[first:]
        terms.append(term)
    return tuple(terms)


def name_end(text, start):
    """Return where the name ends that begins at the start; raise BadText if there is none."""
    end = start
    while end < len(text) and text[end] in LETTERS:
        end += 1
    if not 1 <= end - start <= MAX_LETTERS:
        raise BadText(0)
    return end


def parsed_tokens(text):
    """Return a list with (arity, name) for each token of the term, in the order of the row.

    There may be more tokens and arities than are allowed.
    """
    tokens = []
    # The names whose parentheses are not closed yet, each with the number of its parts so far.
    unclosed = []
    at = 0
    while True:
        end = name_end(text, at)
        name = text[at:end]
        at = end
        if text[at:at + 1] == "(":
            unclosed.append((name, 1))
            at += 1
            continue
        tokens.append((0, name))
        while unclosed and text[at:at + 1] == ")":
            outer, parts = unclosed.pop()
            tokens.append((parts, outer))
            at += 1
        if at == len(text) and not unclosed:
            return tokens
        if not unclosed or text[at:at + 2] != ", ":
            raise BadText(0)
        outer, parts = unclosed.pop()
        unclosed.append((outer, parts + 1))
        at += 2


def parse_term(text):
    """Return (row, names) of the tokens of the term whose text any value is."""
    if not isinstance(text, str):
        raise BadText(None)
    tokens = parsed_tokens(text)
    row = tuple([arity for arity, name in tokens])
    if len(row) > MAX_TOKENS or max(row) > MAX_ARITY:
        raise BadText(0)
    return (row, tuple([name for arity, name in tokens]))

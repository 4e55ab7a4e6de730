"""A console: a reel that is asked and edited by lines of text."""

from ringpostfix.effects import effect_of
from ringpostfix.errors import (
    Busy, LastToken, NoArity, NoBalance, NoBeginning, NoPlace, NothingToUndo, TooLong, TooManyEdits,
)
from ringpostfix.links import all_takers, free_places
from ringpostfix.rings import need
from ringpostfix.texts import places_text, ring_text

MOST_DIGITS = 3
MOST_PAIRS = 20
UNKNOWN = "unknown command"


def done_text(version):
    """Return the answer to an edit that was done."""
    return f"ok {version}"


def answer_put(reel, place, arity):
    return done_text(reel.put(place, arity))


def answer_insert(reel, place, arity):
    return done_text(reel.insert(place, arity))


def answer_remove(reel, place):
    return done_text(reel.remove(place))


def answer_undo(reel):
    return done_text(reel.undo())


def answer_ring(reel):
    return ring_text(reel.ring)


def answer_beginnings(reel):
    return places_text(reel.beginnings)


def answer_free(reel):
    return places_text(free_places(reel.ring))


def answer_need(reel, place):
    return str(need(reel.ring, place))


def answer_links(reel):
    return " ".join(["-" if place is None else str(place) for place in all_takers(reel.ring)])


def answer_effect(reel):
    needed, left = effect_of(reel.ring)
    return f"{needed} {left}"


def answer_start(reel):
    return "none" if reel.start is None else str(reel.start)


def answer_choose(reel, place):
    reel.choose(place)
    return "ok"


# The word of each command and how many numbers follow it.
COMMANDS = {
    ("put", 2): answer_put,
    ("insert", 2): answer_insert,
    ("remove", 1): answer_remove,
    ("undo", 0): answer_undo,
    ("ring", 0): answer_ring,
    ("beginnings", 0): answer_beginnings,
    ("free", 0): answer_free,
    ("need", 1): answer_need,
    ("links", 0): answer_links,
    ("effect", 0): answer_effect,
    ("start", 0): answer_start,
    ("start", 1): answer_choose,
}


def is_number(word):
    """Return whether a word is an integer of few digits without a sign and without leading zeros."""
    if not 1 <= len(word) <= MOST_DIGITS or not all([sign in "0123456789" for sign in word]):
        return False
    return word == "0" or word[0] != "0"


def parsed_command(line):
    """Return (key of the command, numbers) of a text, or None if it is not a command."""
    words = line.split(" ")
    if not all([is_number(word) for word in words[1:]]):
        return None
    key = (words[0], len(words) - 1)
    if key not in COMMANDS:
        return None
    return (key, [int(word) for word in words[1:]])


def answer_to(reel, line):
    """Return the answer to a text."""
    command = parsed_command(line)
    if command is None:
        return UNKNOWN
    key, numbers = command
    action = COMMANDS[key]
    try:
        return action(reel, *numbers)
    except Busy:
        return "error Busy"
    except TooManyEdits:
        return "error TooManyEdits"
    except NoPlace:
        return "error NoPlace"
    except NoArity:
        return "error NoArity"
    except TooLong:
        return "error TooLong"
    except LastToken:
        return "error LastToken"
    except NoBalance:
        return "error NoBalance"
    except NothingToUndo:
        return "error NothingToUndo"
    except NoBeginning:
        return "error NoBeginning"


class Console:
    """A console that works on a reel."""

    def __init__(self, reel):
        self.reel = reel
        self.pairs = ()

    def execute(self, line):
        """Return the answer to a line, which may be any value."""
        text = line if isinstance(line, str) else None
        answer = UNKNOWN if text is None else answer_to(self.reel, text)
        pairs = (*self.pairs, (text, answer))
        self.pairs = pairs[-MOST_PAIRS:]
        return answer

    @property
    def history(self):
        """The last pairs (line, answer), the oldest one first."""
        return self.pairs

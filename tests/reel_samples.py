"""Reels and small functions that several tests of reels use."""

import unittest

from ringpostfix.reels import LoggedReadyReel, LoggedReel, ReadyReel, Reel

KINDS = (Reel, ReadyReel, LoggedReel, LoggedReadyReel)
READY_KINDS = (ReadyReel, LoggedReadyReel)
LOGGED_KINDS = (LoggedReel, LoggedReadyReel)
EDITING = ("put", "insert", "remove")


class Stop(Exception):
    """An exception of a test, which no reel knows."""


class HardStop(BaseException):
    """One that is not even an Exception."""


def told(reel):
    """Return all that a reel answers about itself."""
    answers = {
        "ring": reel.ring,
        "version": reel.version,
        "beginnings": reel.beginnings,
        "start": reel.start,
        "edits": reel.edits(),
        "walk": list(reel.walk()),
        "ring_at": [reel.ring_at(version) for version in range(reel.version + 1)],
        "len": len(reel),
        "str": str(reel),
    }
    if isinstance(reel, LoggedReel):
        answers["log"] = reel.log
    return answers


def filled(kind, many):
    """Return a reel with so many edits in effect; its ring has three tokens and a positive balance."""
    reel = kind((0, 0, 0))
    for step in range(many):
        reel.put(step % 3, 0 if step % 2 else 1)
    return reel


class ReelCase(unittest.TestCase):
    def check_error(self, reel, kind, fields, name, *arguments, **more):
        """Check that a method raises the error with the very objects as fields, and that nothing changes."""
        before = told(reel)
        passed = repr(arguments)
        with self.subTest(reel=type(reel).__name__, name=name, arguments=repr(arguments)[:120]):
            with self.assertRaises(kind) as caught:
                getattr(reel, name)(*arguments, **more)
            self.assertIs(type(caught.exception), kind)
            for field, value in fields.items():
                self.assertIs(getattr(caught.exception, field), value)
            self.assertEqual(told(reel), before)
            self.assertEqual(repr(arguments), passed)

    def check_number(self, reel, kind, field, number, name, *arguments, **more):
        """Check that a method raises the error with exactly this number, and that nothing changes."""
        before = told(reel)
        with self.subTest(reel=type(reel).__name__, name=name, arguments=repr(arguments)[:120]):
            with self.assertRaises(kind) as caught:
                getattr(reel, name)(*arguments, **more)
            self.assertIs(type(caught.exception), kind)
            self.assertEqual(repr(getattr(caught.exception, field)), repr(number))
            self.assertEqual(told(reel), before)

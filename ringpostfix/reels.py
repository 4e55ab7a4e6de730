"""Reels: rings that are edited and undone."""

from ringpostfix.beginnings import beginnings
from ringpostfix.bounds import BATCH
from ringpostfix.checks import is_index, is_plain_integer
from ringpostfix.editing import edited
from ringpostfix.errors import (
    BadEdit, BadEdits, BadRing, Busy, NoBalance, NoBeginning, NoPlace, NothingToUndo, NoVersion, Rejected, RingError,
    TooManyEdits,
)
from ringpostfix.rings import balance, ring_error
from ringpostfix.texts import parse_ring


class Reel:
    """A ring with a list of edits in effect."""

    MOST_EDITS = 60
    WORDS = ("put", "insert", "remove")

    def __init__(self, ring):
        error = ring_error(ring)
        if error is not None:
            raise BadRing(error)
        # The rings after 0, 1, .. of the edits in effect. All of these are tuples, which are
        # replaced and never changed, so copies may share them.
        self.rings = (ring,)
        self.done = ()
        self.starts = beginnings(ring)
        self.chosen = None
        self.busy = False

    @classmethod
    def read(cls, text):
        """Return a reel of this class with the ring of a text, which may be any value."""
        return cls(parse_ring(text))

    @classmethod
    def like(cls, ring):
        """Return a new reel of this class."""
        return cls(ring)

    @staticmethod
    def is_edit(value):
        """Return whether any value is an edit."""
        if not isinstance(value, tuple) or len(value) == 0 or value[0] not in Reel.WORDS:
            return False
        arguments = 1 if value[0] == "remove" else 2
        return len(value) == 1 + arguments

    @property
    def ring(self):
        """The current ring."""
        return self.rings[-1]

    @property
    def version(self):
        """The number of the edits in effect."""
        return len(self.done)

    @property
    def beginnings(self):
        """The beginnings of the current ring."""
        return self.starts

    @property
    def start(self):
        """The chosen beginning of the current ring, or None."""
        return self.chosen

    @start.setter
    def start(self, value):
        if value is not None and not (is_plain_integer(value) and value in self.starts):
            raise NoBeginning(value)
        self.chosen = value

    def choose(self, value):
        """Assign start, and return what it was before."""
        before = self.chosen
        self.start = value
        return before

    def check_idle(self):
        """Raise Busy while on_step of this reel runs."""
        if self.busy:
            raise Busy()

    def check_result(self, ring):
        """Raise an error if a reel of this class cannot have the ring; a class below may do so."""

    def settle(self):
        """Let what depends on the current ring follow it."""
        self.starts = beginnings(self.rings[-1])
        self.chosen = None

    def do_edit(self, edit):
        """Do an edit and return the new version."""
        if len(self.done) >= self.MOST_EDITS:
            raise TooManyEdits()
        ring = edited(self.rings[-1], edit)
        self.check_result(ring)
        self.rings = (*self.rings, ring)
        self.done = (*self.done, edit)
        self.settle()
        return len(self.done)

    def put(self, place, arity):
        """Replace the arity at a place, and return the new version."""
        self.check_idle()
        return self.do_edit(("put", place, arity))

    def insert(self, place, arity):
        """Put a further token at a place or at the end, and return the new version."""
        self.check_idle()
        return self.do_edit(("insert", place, arity))

    def remove(self, place):
        """Remove the token at a place, and return the new version."""
        self.check_idle()
        return self.do_edit(("remove", place))

    def undo(self):
        """Remove the last edit in effect, and return the new version."""
        self.check_idle()
        if len(self.done) == 0:
            raise NothingToUndo()
        self.rings = self.rings[:-1]
        self.done = self.done[:-1]
        self.settle()
        return len(self.done)

    def checked_batch(self, edits):
        """Return a copy of the edits of a batch, which may be any value."""
        if not isinstance(edits, (list, tuple)) or len(edits) > BATCH:
            raise BadEdits()
        batch = tuple(edits)
        for index, item in enumerate(batch):
            if not self.is_edit(item):
                raise BadEdit(index)
        return batch

    def do_step(self, index, edit):
        """Do the edit with this index of a batch."""
        try:
            self.do_edit(edit)
        except (RingError, NoPlace):
            raise Rejected(index) from None

    def run(self, edits, *, on_step=None):
        """Do all edits, or none if one of them or on_step fails, and return the new version."""
        self.check_idle()
        batch = self.checked_batch(edits)
        rings, done, starts, chosen = self.rings, self.done, self.starts, self.chosen
        version = None
        try:
            self.busy = True
            for index, edit in enumerate(batch):
                self.do_step(index, edit)
                # Outside of do_step, so that an error of on_step is not taken for one of the edit.
                if on_step is not None:
                    on_step(self)
            version = len(self.done)
        finally:
            self.busy = False
            if version is None:
                self.rings, self.done, self.starts, self.chosen = rings, done, starts, chosen
        return version

    def ring_at(self, version):
        """Return the ring after so many of the edits in effect."""
        if not is_index(version, len(self.rings)):
            raise NoVersion(version)
        return self.rings[version]

    def edits(self):
        """Return the tuple of the edits in effect."""
        return self.done

    def walk(self):
        """Yield (version, ring) for each version."""
        for version, ring in enumerate(self.rings):
            yield (version, ring)

    def copy(self):
        """Return a reel of the same class with the same edits in effect and the same start."""
        other = self.like(self.rings[0])
        other.rings = self.rings
        other.done = self.done
        other.starts = self.starts
        other.chosen = self.chosen
        return other

    def __len__(self):
        return len(self.done)

    def __str__(self):
        return f"{len(self.rings[-1])} tokens, balance {balance(self.rings[-1])}, {len(self.done)} edits"

    def __eq__(self, other):
        return isinstance(other, Reel) and self.rings[-1] == other.rings[-1]


class ReadyReel(Reel):
    """A reel whose ring always has a positive balance, and so a beginning."""

    def __init__(self, ring):
        super().__init__(ring)
        self.check_result(ring)

    def check_result(self, ring):
        """Raise NoBalance unless the balance of the ring is positive."""
        left = balance(ring)
        if left <= 0:
            raise NoBalance(left)


class LoggedReel(Reel):
    """A reel with a log of the calls that changed it."""

    def __init__(self, ring):
        super().__init__(ring)
        self.calls = ()

    @property
    def log(self):
        """The tuple of the rows (name, version) of all calls, the oldest one first."""
        return self.calls

    def noted(self, name, version):
        """Add a row to the log, and return the version."""
        self.calls = (*self.calls, (name, version))
        return version

    def put(self, place, arity):
        """Do what a reel does, and note it."""
        return self.noted("put", super().put(place, arity))

    def insert(self, place, arity):
        """Do what a reel does, and note it."""
        return self.noted("insert", super().insert(place, arity))

    def remove(self, place):
        """Do what a reel does, and note it."""
        return self.noted("remove", super().remove(place))

    def undo(self):
        """Do what a reel does, and note it."""
        return self.noted("undo", super().undo())

    def run(self, edits, *, on_step=None):
        """Do what a reel does, and note it once for all edits."""
        return self.noted("run", super().run(edits, on_step=on_step))

    def copy(self):
        """Return what a reel does, with the same log."""
        other = super().copy()
        other.calls = self.calls
        return other


class LoggedReadyReel(LoggedReel, ReadyReel):
    """A reel with a log whose ring always has a positive balance."""

    def __init__(self, ring):
        super().__init__(ring)

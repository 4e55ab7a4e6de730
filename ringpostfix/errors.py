"""The errors of the package.

Python itself keeps what an error was constructed from as its message, so a
constructor only stores the fields.
"""


class RingError(ValueError):
    """The base of all errors that are not about a missing place, index or version."""


class NotReady(RingError):
    """The row is not ready."""

    def __init__(self, row):
        self.row = row


class NoBeginning(RingError):
    """The value is not a beginning."""

    def __init__(self, value):
        self.value = value


class NoRows(RingError):
    """No row or tree was given."""


class NoArity(RingError):
    """The value is not an arity."""

    def __init__(self, value):
        self.value = value


class TooLong(RingError):
    """There would be more tokens than the limit."""

    def __init__(self, limit):
        self.limit = limit


class LastToken(RingError):
    """The only token of a ring cannot be removed."""


class OtherEffect(RingError):
    """The row has an effect other than the stretch that it replaces."""

    def __init__(self, effect):
        self.effect = effect


class NoProperty(RingError):
    """The name is not that of a property of places."""

    def __init__(self, name):
        self.name = name


class BadWish(RingError):
    """The value cannot be wanted of a property."""

    def __init__(self, value):
        self.value = value


class BadRing(RingError):
    """The value is not a ring; error is what ring_error says of it."""

    def __init__(self, error):
        self.error = error


class NoBalance(RingError):
    """The balance is not positive."""

    def __init__(self, balance):
        self.balance = balance


class TooManyEdits(RingError):
    """As many edits as a reel can hold are in effect."""


class NothingToUndo(RingError):
    """No edit is in effect."""


class BadEdits(RingError):
    """The value is not a batch of edits."""


class BadEdit(RingError):
    """The item with the index is not an edit."""

    def __init__(self, index):
        self.index = index


class Rejected(RingError):
    """The edit with the index raised an error."""

    def __init__(self, index):
        self.index = index


class Busy(RingError):
    """The reel runs a batch of edits."""


class BadText(RingError):
    """The value is not a text of the wanted form; index tells where, if it is a text."""

    def __init__(self, index):
        self.index = index


class NoPlace(LookupError):
    """The value is not the number of a place."""

    def __init__(self, value):
        self.value = value


class NoIndex(LookupError):
    """The value is not an index."""

    def __init__(self, value):
        self.value = value


class NoVersion(LookupError):
    """The value is not a version."""

    def __init__(self, value):
        self.value = value

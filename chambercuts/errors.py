"""The errors of the package. Each keeps, unchanged, what it is made with."""


class LockError(ValueError):
    """What all errors of the package stand under; it is never raised itself."""


class InvalidNumber(LockError):
    """The value is not a number that is let here."""

    def __init__(self, value):
        self.value = value


class InvalidLocks(LockError):
    """The value is not the rows of a table, or not locks of a system."""

    def __init__(self, value):
        self.value = value


class InvalidKeys(LockError):
    """The value is not keys of the table."""

    def __init__(self, value):
        self.value = value


class InvalidKind(LockError):
    """The value is not one of the words "plain" and "deep"."""

    def __init__(self, value):
        self.value = value


class InvalidCut(LockError):
    """The value is not a cut of these chambers and depths."""

    def __init__(self, value):
        self.value = value


class InvalidCuts(LockError):
    """The value is not cuts of the kind that is asked for."""

    def __init__(self, value):
        self.value = value


class InvalidTable(LockError):
    """The value is not a table."""

    def __init__(self, value):
        self.value = value


class InvalidPair(LockError):
    """The value is not a pair of a key and a lock that it shall not open."""

    def __init__(self, value):
        self.value = value


class InvalidQuestion(LockError):
    """The value is not a question for this table or system."""

    def __init__(self, value):
        self.value = value


class InvalidClaim(LockError):
    """The value is not a claim for this table or system."""

    def __init__(self, value):
        self.value = value


class Undefined(LockError):
    """There is no such thing; the word tells what was asked for."""

    def __init__(self, what):
        self.what = what


class NothingToUndo(LockError):
    """There is no deed to undo or redo; the word tells which."""

    def __init__(self, word):
        self.word = word

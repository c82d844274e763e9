"""The errors that the program raises; each keeps the values that it is made of as attributes."""


class ShelfError(ValueError):
    """The base of all errors but NoWord and NoVersion."""


class BadText(ShelfError):
    """A value is no text of a plan: line is the index of the first wrong line, or None."""

    def __init__(self, line):
        self.line = line


class BadPlan(ShelfError):
    """A plan is not good: error tells why."""

    def __init__(self, error):
        self.error = error


class BadWord(ShelfError):
    """A word is not one that may stand here."""

    def __init__(self, word):
        self.word = word


class BadQuery(ShelfError):
    """A query is none."""

    def __init__(self, query):
        self.query = query


class BadLine(ShelfError):
    """A line of steps is none: error tells why."""

    def __init__(self, error):
        self.error = error


class BadComp(ShelfError):
    """A comparison is none, or not one for these letters: error tells why."""

    def __init__(self, error):
        self.error = error


class BadRoom(ShelfError):
    """A room is none."""

    def __init__(self, room):
        self.room = room


class BadPage(ShelfError):
    """A page does not begin, or does not end, as it may."""

    def __init__(self, first, many):
        self.first = first
        self.many = many


class Outside(ShelfError):
    """The image of a word is not of the kind: word is this image."""

    def __init__(self, word):
        self.word = word


class Crowded(ShelfError):
    """A shelf has as many words as it may have."""


class Full(ShelfError):
    """The counts of the words are more than the room lets."""


class Faulty(ShelfError):
    """A comparison is no order on the kind: fault shows it."""

    def __init__(self, fault):
        self.fault = fault


class Unsure(ShelfError):
    """A plan is not sure: reason names what fails, evidence shows it."""

    def __init__(self, reason, evidence):
        self.reason = reason
        self.evidence = evidence


class Unlike(ShelfError):
    """Two comparisons have unlike numbers of letters."""


class TooGreat(ShelfError):
    """A result would be greater than what may be returned."""


class Busy(ShelfError):
    """A shelf cannot be edited while its watch runs."""


class TooManyEdits(ShelfError):
    """As many edits stand as may stand."""


class NothingToUndo(ShelfError):
    """No edit stands."""


class NothingToRedo(ShelfError):
    """No edit was removed that could be put back."""


class BadEdits(ShelfError):
    """The edits of an attempt are no list or tuple, or too many."""


class BadEdit(ShelfError):
    """The item of an attempt with this index is no edit."""

    def __init__(self, index):
        self.index = index


class Rejected(ShelfError):
    """The item of an attempt with this index raised an error."""

    def __init__(self, index):
        self.index = index


class NoWord(LookupError):
    """A shelf has no word with this index."""

    def __init__(self, index):
        self.index = index


class NoVersion(LookupError):
    """A shelf has no such version."""

    def __init__(self, version):
        self.version = version

"""The errors of the package: each keeps what it is made with, the very object."""


class FilterError(ValueError):
    """All errors of the package stand under this one; it is never raised itself."""


class InvalidNumber(FilterError):
    """What should be a number in the bounds that a function tells."""

    def __init__(self, value):
        self.value = value


class InvalidMarks(FilterError):
    """What should be a tuple of marks."""

    def __init__(self, value):
        self.value = value


class InvalidMark(FilterError):
    """What should be one mark."""

    def __init__(self, value):
        self.value = value


class InvalidKeys(FilterError):
    """What should be an ascending tuple of items."""

    def __init__(self, value):
        self.value = value


class InvalidItem(FilterError):
    """What should be an item of those that a function tells."""

    def __init__(self, value):
        self.value = value


class InvalidBits(FilterError):
    """What should be an ascending tuple of cells, or a tuple of prints."""

    def __init__(self, value):
        self.value = value


class InvalidTelling(FilterError):
    """What should be a telling."""

    def __init__(self, value):
        self.value = value


class InvalidRows(FilterError):
    """What should be the rows of a table."""

    def __init__(self, value):
        self.value = value


class InvalidTable(FilterError):
    """What should be a table that fits another one."""

    def __init__(self, value):
        self.value = value


class InvalidQuestion(FilterError):
    """What should be a question for a marking."""

    def __init__(self, value):
        self.value = value


class InvalidClaim(FilterError):
    """What should be a claim for a marking."""

    def __init__(self, value):
        self.value = value


class Undefined(FilterError):
    """What is asked for is not there; what is the word that tells why."""

    def __init__(self, what):
        self.what = what


class NothingToUndo(FilterError):
    """There is nothing to undo or to redo; word tells which."""

    def __init__(self, word):
        self.word = word

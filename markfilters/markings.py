"""Markings, and what is said of values by a marking: marks, keys and bits."""

from markfilters.basics import is_ascending, is_integer_within
from markfilters.errors import InvalidMarks, InvalidNumber

MOST_CELLS = 8
MOST_MARKS = 7


def is_mark(cells, value):
    """Whether value, of any kind, is a mark in so many cells."""
    return is_ascending(value, cells) and len(value) > 0


def are_marks(cells, value):
    """Whether value, of any kind, is a tuple of 1 to 7 marks in so many cells."""
    if not isinstance(value, tuple) or not 1 <= len(value) <= MOST_MARKS:
        return False
    return all([is_mark(cells, mark) for mark in value])


class Marking:
    """So many cells, and for each item its mark, the cells that it is marked in."""

    def __init__(self, cells, marks):
        if not is_integer_within(cells, 1, MOST_CELLS):
            raise InvalidNumber(cells)
        if not are_marks(cells, marks):
            raise InvalidMarks(marks)
        self.cells = cells
        # Attributes are plain tuples, also where the caller's are of a class below tuple.
        self.marks = tuple([tuple(mark) for mark in marks])

    def __eq__(self, other):
        return isinstance(other, Marking) and self.cells == other.cells and self.marks == other.marks

    def __len__(self):
        return len(self.marks)


def are_keys(marking, value):
    """Whether value, of any kind, is an ascending tuple of items of the marking, perhaps ()."""
    return is_ascending(value, len(marking))


def are_bits(marking, value):
    """Whether value, of any kind, is an ascending tuple of cells of the marking, perhaps ()."""
    return is_ascending(value, marking.cells)

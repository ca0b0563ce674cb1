"""Markings that never say a wrong yes for keys of a told number, and marks none within another one."""

from math import comb, factorial

from markfilters.basics import chosen, is_integer_within, lies_within
from markfilters.errors import InvalidMarks, InvalidNumber
from markfilters.filling import wrong, wrong_total
from markfilters.markings import MOST_CELLS, is_mark
from markfilters.ratios import ratio


def is_free(marking, size):
    """Whether no keys of just so many say a wrong yes."""
    # wrong_total refuses wrong sizes.
    return wrong_total(marking, size) == 0


def worst(marking, size):
    """The greatest number of wrong yeses of keys of just so many, and the first keys that have it."""
    if not is_integer_within(size, 0, len(marking)):
        raise InvalidNumber(size)
    most, first = -1, ()
    for keys in chosen(len(marking), size):
        many = len(wrong(marking, keys))
        if many > most:
            most, first = many, keys
    return most, first


def half_of(cells):
    """Half of so many cells, rounded up."""
    return (cells + 1) // 2


def most_free(cells):
    """The greatest number of marks in so many cells, none within another one."""
    if not is_integer_within(cells, 1, MOST_CELLS):
        raise InvalidNumber(cells)
    return comb(cells, half_of(cells))


def free_marks(cells, many):
    """The ascending tuple of the first so many marks that have just half of the cells, rounded up."""
    # most_free refuses wrong cells.
    if not is_integer_within(many, 1, most_free(cells)):
        raise InvalidNumber(many)
    return tuple(chosen(cells, half_of(cells))[:many])


def free_share(cells, marks):
    """The sum over all marks of 1 divided by the number of ways to choose as many cells, a ratio."""
    most = most_free(cells)
    # More than most are never apart: this is seen ahead of going through all pairs of many marks.
    if not isinstance(marks, tuple) or len(marks) > most or not are_apart(cells, marks):
        raise InvalidMarks(marks)
    # Of all orders of the cells these begin with the cells of the mark, the same share as that of the mark.
    orders = [factorial(len(mark)) * factorial(cells - len(mark)) for mark in marks]
    return ratio(sum(orders), factorial(cells))


def are_apart(cells, marks):
    """Whether the members of the tuple, of any kind, are marks in so many cells, none within another one."""
    if not all([is_mark(cells, mark) for mark in marks]):
        return False
    places = range(len(marks))
    return not any([lies_within(marks[at], marks[to]) for at in places for to in places if at != to])

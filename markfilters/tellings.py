"""The sets of yeses of a marking, and the marking with the fewest cells that has them."""

from markfilters.basics import ascend, chosen, is_ascending, is_integer_within, lies_within, plain
from markfilters.errors import InvalidNumber, InvalidTelling
from markfilters.filling import filled, says
from markfilters.joining import common_items
from markfilters.markings import Marking

MOST_ITEMS = 4


def yeses(marking):
    """The ascending tuple of the unlike sets of yeses, over all keys."""
    every = [keys for size in range(len(marking) + 1) for keys in chosen(len(marking), size)]
    return tuple(sorted({says(marking, filled(marking, keys)) for keys in every}))


def avoiding(marking, cell):
    """The ascending tuple of the items in whose mark the cell is not."""
    if not is_integer_within(cell, 0, marking.cells - 1):
        raise InvalidNumber(cell)
    return tuple([item for item, mark in enumerate(marking.marks) if cell not in mark])


def is_telling(many, value):
    """Whether value, of any kind, is a telling of so many items."""
    if not isinstance(value, tuple) or not all([is_ascending(member, many) for member in value]):
        return False
    # What ascends has few members, so that all pairs of them can be gone through.
    if not ascend(value) or () not in value or tuple(range(many)) not in value:
        return False
    return all([common_items(one, other) in value for one in value for other in value])


def needed(many, telling):
    """The ascending tuple of the members that are no common items of greater members."""
    if not is_integer_within(many, 1, MOST_ITEMS):
        raise InvalidNumber(many)
    if not is_telling(many, telling):
        raise InvalidTelling(telling)
    members = plain(telling)
    return tuple([member for member in members if len(member) < many and is_needed(member, members)])


def is_needed(member, members):
    """Whether the common items of the greater members that have this one within are more than it."""
    greater = [other for other in members if other != member and lies_within(member, other)]
    # All items are a greater member, so there is a first one.
    common = [item for item in greater[0] if all([item in other for other in greater])]
    return len(common) > len(member)


def marking_for(many, telling):
    """The marking with a cell for each needed member, which the items that are not in it have."""
    members = needed(many, telling)
    marks = [tuple([cell for cell, member in enumerate(members) if item not in member]) for item in range(many)]
    return Marking(len(members), tuple(marks))

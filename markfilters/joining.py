"""The cells that two sets of keys both fill, and markings folded to half of their cells."""

from markfilters.errors import Undefined
from markfilters.filling import filled, says
from markfilters.markings import Marking


def common_items(one, other):
    """The ascending tuple of the items that are in both ascending tuples."""
    return tuple([item for item in one if item in other])


def met(marking, one, other):
    """The ascending tuple of the cells that both keys fill."""
    # filled refuses what are no keys, and so one ahead of other.
    cells = filled(marking, one)
    others = filled(marking, other)
    return tuple([cell for cell in cells if cell in others])


def meets(marking, one, other):
    """Whether the cells that both keys fill are just those that the common keys fill."""
    both = met(marking, one, other)
    return both == filled(marking, common_items(one, other))


def met_wrong(marking, one, other):
    """The ascending tuple of the items that the cells that both keys fill say yes to, but for the common keys."""
    yes = says(marking, met(marking, one, other))
    common = common_items(one, other)
    return tuple([item for item in yes if item not in common])


def folded(marking):
    """The marking with half as many cells, where the cells c and c + half become one."""
    if marking.cells % 2 == 1:
        raise Undefined("odd")
    half = marking.cells // 2
    return Marking(half, tuple([folded_mark(mark, half) for mark in marking.marks]))


def folded_mark(mark, half):
    """What becomes of a mark where so many cells are half of all."""
    return tuple(sorted({cell % half for cell in mark}))

"""The cells that keys fill, and the items that filled cells say yes to."""

from itertools import combinations

from markfilters.basics import is_integer_within, lies_within
from markfilters.errors import InvalidBits, InvalidKeys, InvalidNumber
from markfilters.markings import are_bits, are_keys


def filled(marking, keys):
    """The ascending tuple of the cells that the keys fill."""
    if not are_keys(marking, keys):
        raise InvalidKeys(keys)
    return tuple(sorted({cell for key in keys for cell in marking.marks[key]}))


def says(marking, bits):
    """The ascending tuple of the items that are said yes where just the cells bits are filled."""
    if not are_bits(marking, bits):
        raise InvalidBits(bits)
    return tuple([item for item, mark in enumerate(marking.marks) if lies_within(mark, bits)])


def wrong(marking, keys):
    """The ascending tuple of the items besides keys that are said yes by the cells that keys fill."""
    if not are_keys(marking, keys):
        raise InvalidKeys(keys)
    yes = says(marking, filled(marking, keys))
    return tuple([item for item in yes if item not in keys])


def wrong_total(marking, size):
    """How many items are said yes wrongly, summed over all keys of just this size."""
    if not is_integer_within(size, 0, len(marking)):
        raise InvalidNumber(size)
    return sum([len(wrong(marking, keys)) for keys in combinations(range(len(marking)), size)])

"""What becomes of keys where cells are cleared, and where a key is taken out by counts."""

from markfilters.basics import is_integer
from markfilters.errors import InvalidBits, InvalidItem, InvalidKeys
from markfilters.filling import filled, says
from markfilters.markings import are_bits, are_keys


def own_cells(marking, keys, item):
    """The ascending tuple of the cells that among the keys just this one, item, has in its mark."""
    if not are_keys(marking, keys):
        raise InvalidKeys(keys)
    if not is_integer(item) or item not in keys:
        raise InvalidItem(item)
    others = filled(marking, without(keys, item))
    return tuple([cell for cell in marking.marks[item] if cell not in others])


def lost(marking, keys, bits):
    """The ascending tuple of the keys that are said no by the cells that keys fill without bits."""
    if not are_keys(marking, keys):
        raise InvalidKeys(keys)
    if not are_bits(marking, bits):
        raise InvalidBits(bits)
    left = tuple([cell for cell in filled(marking, keys) if cell not in bits])
    yes = says(marking, left)
    return tuple([key for key in keys if key not in yes])


def counts(marking, keys):
    """For each cell the number of the keys in whose mark it is."""
    if not are_keys(marking, keys):
        raise InvalidKeys(keys)
    marks = [marking.marks[key] for key in keys]
    return tuple([len([mark for mark in marks if cell in mark]) for cell in range(marking.cells)])


def misled(marking, keys, item):
    """The ascending tuple of the keys besides item with a cell of count 0 once item is counted out."""
    if not are_keys(marking, keys):
        raise InvalidKeys(keys)
    if not is_integer(item) or item not in says(marking, filled(marking, keys)):
        raise InvalidItem(item)
    told = counts(marking, keys)
    # Other cells of keys keep their counts, which are 1 or more, as those of all filled cells are.
    emptied = [cell for cell in marking.marks[item] if told[cell] == 1]
    return tuple([key for key in without(keys, item) if have_common(marking.marks[key], emptied)])


def without(keys, item):
    """The keys besides item."""
    return tuple([key for key in keys if key != item])


def have_common(mark, cells):
    """Whether some cell of the mark is among the cells."""
    return any([cell in cells for cell in mark])

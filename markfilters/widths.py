"""How many sets of yeses a filter of a told width needs: families, and walls that no shorter family passes."""

from itertools import combinations

from markfilters.basics import ascend, chosen, is_ascending, is_integer, is_integer_within, lies_within
from markfilters.errors import InvalidNumber, Undefined

MOST_MANY = 5
MOST_FAMILY = 4


def check_numbers(many, size, width):
    """Refuses what is no number of items, of keys and of yeses, in this order."""
    if not is_integer_within(many, 1, MOST_MANY):
        raise InvalidNumber(many)
    if not is_integer_within(size, 0, many - 1):
        raise InvalidNumber(size)
    if not is_integer_within(width, size + 1, many):
        raise InvalidNumber(width)


def is_chosen(many, size, value):
    """Whether value, of any kind, is an ascending tuple of just size numbers below many."""
    return is_ascending(value, many) and len(value) == size


def are_chosen(many, size, value):
    """Whether value, of any kind, is an ascending tuple of ascending tuples of just size numbers below many."""
    if not isinstance(value, tuple) or not all([is_chosen(many, size, member) for member in value]):
        return False
    return ascend(value)


def cover(members, many, size):
    """Whether each tuple of size numbers below many lies within one of the members."""
    return all([any([lies_within(keys, member) for member in members]) for keys in chosen(many, size)])


def is_family(many, size, width, value):
    """Whether value, of any kind, is a family."""
    return are_chosen(many, width, value) and cover(value, many, size)


def families(many, size, width, length):
    """The list of all families of just this length, ascending."""
    every = combinations_of(chosen(many, width), length)
    return [members for members in every if cover(members, many, size)]


def combinations_of(rows, length):
    """The list of all ways to choose so many of the rows, in their order."""
    return list(combinations(rows, length))


def fewest(many, size, width):
    """The least length of a family."""
    check_numbers(many, size, width)
    length = 1
    while not families(many, size, width, length):
        length += 1
    return length


def family(many, size, width):
    """The first family of the least length."""
    # fewest refuses wrong numbers.
    length = fewest(many, size, width)
    return families(many, size, width, length)[0]


def walls(many, size, width, k):
    """Walls for k, which show that there is no family of k members or fewer."""
    # fewest refuses the other wrong numbers, ahead of k.
    least = fewest(many, size, width)
    if not is_integer_within(k, 1, MOST_FAMILY):
        raise InvalidNumber(k)
    if k >= least:
        raise Undefined("walls")
    # A lot for t is what some t tuples of width numbers leave over of all: never nothing for t up to k.
    levels = [(tuple(chosen(many, size)),)]
    for _ in range(k):
        levels.append(next_level(levels[-1], many, width))
    return tuple(levels)


def next_level(lots, many, width):
    """The unlike lots, ascending, that each tuple of width numbers leaves over of each of the lots."""
    wide = chosen(many, width)
    return tuple(sorted({left_over(lot, one) for lot in lots for one in wide}))


def left_over(lot, wide):
    """The members of the lot that do not lie within the tuple wide."""
    return tuple([member for member in lot if not lies_within(member, wide)])


def walls_hold(many, size, width, k, value):
    """Whether value, of any kind, are walls for k, of any kind."""
    if not is_integer(k) or k < 1 or not isinstance(value, tuple) or len(value) != k + 1:
        return False
    if not all([are_lots(many, size, lots) for lots in value]) or value[0] == ():
        return False
    return all([leads_on(value[t], value[t + 1], many, size, width) for t in range(k)])


def are_lots(many, size, value):
    """Whether value, of any kind, is an ascending tuple of lots."""
    if not isinstance(value, tuple):
        return False
    if not all([are_chosen(many, size, lot) and len(lot) > 0 for lot in value]):
        return False
    return ascend(value)


def leads_on(lots, others, many, size, width):
    """Whether of each lot, whatever tuple of width numbers is passed over, what is left has one of others within."""
    members = chosen(many, size)
    # There may be many lots here and there: as integers they are compared quickly.
    within = [as_bits(members, lot) for lot in others]
    for wide in chosen(many, width):
        left = as_bits(members, left_over(members, wide))
        rests = sorted({as_bits(members, lot) & left for lot in lots})
        if not all([has_within(rest, within) for rest in rests]):
            return False
    return True


def as_bits(members, lot):
    """The integer that has for each of the members a bit, 1 where it is in the lot."""
    return sum([1 << at for at, member in enumerate(members) if member in lot])


def has_within(rest, lots):
    """Whether one of the lots lies within the rest, all as integers."""
    return any([lot & rest == lot for lot in lots])

"""What the modules ask of values, perhaps of any kind, and what they choose from numbers."""

from itertools import combinations


def is_integer(value):
    """Whether value, of any kind, is an integer."""
    # A bool is an int to Python, but no integer here.
    return isinstance(value, int) and not isinstance(value, bool)


def is_integer_within(value, low, high):
    """Whether value, of any kind, is an integer from low to high, both let."""
    return is_integer(value) and low <= value <= high


def is_ascending(value, below):
    """Whether value, of any kind, is an ascending tuple, perhaps (), of numbers less than below."""
    if not isinstance(value, tuple):
        return False
    least = 0
    for member in value:
        if not is_integer_within(member, least, below - 1):
            return False
        least = member + 1
    return True


def ascend(members):
    """Whether each of the members, tuples that can be compared, is more than the one ahead of it."""
    return all([one < other for one, other in zip(members, members[1:])])


def lies_within(part, whole):
    """Whether each member of the tuple part is one of the tuple whole."""
    return all([member in whole for member in part])


def chosen(many, size):
    """The list of all ascending tuples of just size numbers below many, ascending."""
    return list(combinations(range(many), size))


def plain(value):
    """The value, its tuples made plain ones where they are of a class below tuple."""
    if isinstance(value, tuple):
        return tuple([plain(member) for member in value])
    return value


def is_same(value, told):
    """Whether value, of any kind, is equal to told, which is of tuples, strings and integers."""
    if isinstance(told, tuple):
        if not isinstance(value, tuple) or len(value) != len(told):
            return False
        return all([is_same(mine, yours) for mine, yours in zip(value, told)])
    # To Python True is equal to 1.
    return is_integer(value) == is_integer(told) and value == told

"""What the modules ask of values, perhaps of any kind."""


def is_integer(value):
    """Whether value, of any kind, is an integer."""
    # A bool is an int to Python, but no integer here.
    return isinstance(value, int) and not isinstance(value, bool)


def is_integer_within(value, low, high):
    """Whether value, of any kind, is an integer from low to high, both let."""
    return is_integer(value) and low <= value <= high


def is_ascending(value, below):
    """Whether value, of any kind, is an ascending tuple, perhaps (), of numbers less than below."""
    if not isinstance(value, tuple):
        return False
    least = 0
    for member in value:
        if not is_integer_within(member, least, below - 1):
            return False
        least = member + 1
    return True


def lies_within(part, whole):
    """Whether each member of the tuple part is one of the tuple whole."""
    return all([member in whole for member in part])

"""Values changed at one place, and what the tests ask of such values."""

WORDS = ["wrong", "meets", "strange", "take", "safe", "lost", "free", "fails", "cells", "", "w"]


def changes(value):
    """Values of all kinds that differ from value at one place."""
    if isinstance(value, tuple):
        yield from changes_of_tuple(value)
    elif isinstance(value, str):
        yield from [word for word in WORDS if word != value] + [value + " ", value.upper(), None, 0, (value,), [value]]
    elif isinstance(value, int):
        yield from [value + 1, value - 1, value + 999, -1 - value, bool(value), not value, None, str(value)]
        yield from [(value,), [value], (), []]
    else:
        yield from [0, 1, -1, True, False, "", (), []]


def changes_of_tuple(value):
    yield list(value)
    yield from [None, True, False, 0, 1, -1, ""]
    if value != ():
        yield ()
    yield (value,)
    for at, member in enumerate(value):
        yield value[:at] + value[at + 1:]
        yield value[:at] + (member,) + value[at:]
        for other in changes(member):
            yield value[:at] + (other,) + value[at + 1:]
    for more in [0, 1, -1, True, None, "", (), (0,), [0], ((),)]:
        yield value + (more,)
        yield (more,) + value
    for at in range(len(value) - 1):
        if not same(value[at], value[at + 1]):
            yield value[:at] + (value[at + 1], value[at]) + value[at + 2:]


def same(one, other):
    """Whether both are equal, where a bool is not the integer it equals."""
    if isinstance(one, (tuple, list)):
        if not isinstance(other, type(one)) or len(one) != len(other):
            return False
        return all(same(mine, yours) for mine, yours in zip(one, other))
    return type(one) is type(other) and one == other


def ascends(value):
    """Whether value is a tuple whose members, validated to be comparable, ascend."""
    return isinstance(value, tuple) and all(one < other for one, other in zip(value, value[1:]))


def is_number(value):
    return type(value) is int and value >= 0


def ascends_below(value, below):
    """Whether value is an ascending tuple of numbers less than below."""
    if not isinstance(value, tuple) or not all(is_number(member) and member < below for member in value):
        return False
    return ascends(value)


def deep(depth):
    """A tuple nested so deep."""
    value = ()
    for _ in range(depth - 1):
        value = (value,)
    return value

"""Values that several tests use."""

from itertools import combinations

from markfilters.markings import Marking


def tuples_below(many):
    """All ascending tuples of numbers below many, the short ones first."""
    return [chosen for size in range(many + 1) for chosen in combinations(range(many), size)]


# One item and many, one cell and many, equal marks, marks within others, cells that no mark has.
MARKINGS = [
    Marking(1, ((0,),)),
    Marking(1, ((0,),) * 7),
    Marking(2, ((0,), (1,), (0, 1))),
    Marking(4, ((0,), (1,), (0, 1), (2, 3))),
    Marking(5, ((1, 3), (1, 3), (3,), (0, 1, 3))),
    Marking(4, ((0, 1), (0, 2), (0, 3), (1, 2), (1, 3), (2, 3))),
    Marking(8, ((0, 7), (7,), (1, 2, 3), (2, 3, 4), (0, 1, 2, 3, 4, 5, 6, 7), (4, 5), (1, 4))),
    Marking(8, ((0,), (1,), (2,), (3,), (4,), (5,), (6,))),
]

FOUR = MARKINGS[3]

# No integers, as this package means them.
NOT_INTEGERS = [
    True, False, None, "", "1", (), (1,), [], [1], ((),), 1.0, Marking(1, ((0,),)), ValueError("1"),
]

# No tuples, though some are iterable.
NOT_TUPLES = [
    0, 1, -1, True, False, None, "", "0", "01", b"0", [], [0], [[0]], {}, {0: 1}, {0}, range(1),
    Marking(1, ((0,),)), ValueError((0,)),
]


class Plain(tuple):
    """A tuple of a class of its own."""


def not_ascending_below(many):
    """Values of all kinds that are no ascending tuples of numbers below many (many from 1 on)."""
    nested = ()
    for _ in range(59):
        nested = (nested,)
    wrong = [
        (many,), (0, many), (-1,), (-1, 0), (999999999999,), (0, 0), (1, 0), tuple(range(many + 1)),
        (True,), (False,), (False, 1), (0, True), (None,), (0, None), ("0",), ("",), (0, "1"),
        ((),), ((0,),), (0, (1,)), ([],), ([0],), (0.0,), (MARKINGS[0],), nested, tuple([0] * 3000),
    ]
    if many > 2:
        wrong += [(0, 2, 1), (2, 1), (0, 1, 1), (0, 2, 2), (1, 1, 2), (1, 0, 2)]
    return NOT_TUPLES + wrong

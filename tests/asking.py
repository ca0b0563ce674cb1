"""Questions, claims and papers as the document tells them, and values that are none of them."""

import random
from itertools import combinations, product

from changes import ascends_below, deep, is_number, same
from samples import FOUR, MARKINGS, NOT_INTEGERS, NOT_TUPLES, tuples_below
from markfilters.markings import Marking
from markfilters.prints import Table

QUESTION_WORDS = {
    "wrong": "wrong", "meets": "meets", "strange": "meets", "safe": "take", "lost": "take",
    "free": "free", "fails": "free", "cells": "cells",
}

APART = Marking(4, ((0, 1), (0, 2), (0, 3), (1, 2)))
THREE = Marking(3, ((0, 1), (1, 2), (1,)))
ASKED = [Marking(1, ((0,),)), Marking(2, ((0,), (1,), (0, 1))), THREE, FOUR, APART]
GREATER = [MARKINGS[4], MARKINGS[5], MARKINGS[6], MARKINGS[7], Marking(5, ((0,), (0, 1), (2, 3), (3, 4), (0, 4)))]

# No questions and no claims, for any marking.
NONSENSE = NOT_TUPLES + NOT_INTEGERS + [
    (), ((),), ("",), (0,), (None,), (["wrong"], ()), (("wrong",), ()), ("wrong",), ("meets",), ("meets", ()),
    ("strange",), ("take",), ("take", (0,), 0), ("safe",), ("lost",), ("free",), ("fails",), ("cell",), ("Cells",),
    ("cells", ()), ("cells", None), ("cells", True), ("cells", "3"), ("cells", -1), ("cells", 1, 1), ("cells", (1,)),
    ["wrong", ()], ["cells"], ["cells", 1], ("wrong", [], 0), ("wrong", [0], 0), ("wrong", "", 0), ("wrong", None),
    ("free", None), ("free", -1), ("free", True), ("free", False), ("free", "1"), ("free", (1,)), ("fails", True),
    ("meets", (), []), ("meets", [], ()), ("strange", (), None), (b"wrong", ()), (True, ()), ("no", ()),
    deep(60), ("wrong", deep(59)), ("x" * 4000, ()), ("wrong", (0,) * 29998), tuple(range(30000)), ("wrong", FOUR, 0),
    (Table(1, 1, ((0,),)), ()), (FOUR,), ("strange-", (), ()), ("wrong", ((),), 0), ("meets", ((),), ()),
]


def every_keys(marking):
    return tuples_below(len(marking.marks))


def tuples_of(members):
    """All tuples of some of the members, in their order."""
    return [some for size in range(len(members) + 1) for some in combinations(members, size)]


def takes(marking):
    for keys in every_keys(marking):
        for item in keys:
            for bits in tuples_of(marking.marks[item]):
                yield ("take", keys, item, bits)


def questions(marking):
    """All questions for the marking."""
    for keys in every_keys(marking):
        yield ("wrong", keys)
    for one, other in product(every_keys(marking), repeat=2):
        yield ("meets", one, other)
    yield from takes(marking)
    for size in range(len(marking.marks) + 1):
        yield ("free", size)
    if len(marking.marks) <= 4:
        yield ("cells",)


def some_questions(marking, many, seed):
    """Drawn questions for the marking, as many of each kind where there are so many, those at the ends among them."""
    draw = random.Random(seed)
    every = list(questions(marking))
    for word in ("wrong", "meets", "take", "free", "cells"):
        asked = [question for question in every if question[0] == word]
        if len(asked) <= many:
            yield from asked
        else:
            yield from [asked[0], asked[-1]] + draw.sample(asked, many - 2)


def claims_of(marking, question):
    """The claims that may answer the question, with all numbers that can be true and some that cannot."""
    word, *parts = question
    if word == "wrong":
        return [("wrong", *parts, many) for many in [*range(9), 100, 999999999999]]
    if word == "cells":
        return [("cells", many) for many in [*range(10), 100, 999999999999]]
    return [(claim, *parts) for claim, asked in QUESTION_WORDS.items() if asked == word]


def expected_question(marking, value):
    """Whether value is a question for the marking."""
    many = len(marking.marks)
    if not isinstance(value, tuple) or value == () or type(value[0]) is not str:
        return False
    word, *parts = value
    if word == "wrong" and len(parts) == 1 or word == "meets" and len(parts) == 2:
        return all(ascends_below(keys, many) for keys in parts)
    if word == "take" and len(parts) == 3:
        keys, item, bits = parts
        if not ascends_below(keys, many) or type(item) is not int or item not in keys:
            return False
        return ascends_below(bits, marking.cells) and set(bits) <= set(marking.marks[item])
    if word == "free" and len(parts) == 1:
        return is_number(parts[0]) and parts[0] <= many
    return word == "cells" and len(parts) == 0 and many <= 4


def question_behind(value):
    """The question that value may answer if it is a claim, None for what is no claim for any marking."""
    if not isinstance(value, tuple) or value == () or type(value[0]) is not str:
        return None
    if value[0] not in QUESTION_WORDS:
        return None
    if value[0] in ("wrong", "cells"):
        return value[:-1] if len(value) > 1 and is_number(value[-1]) else None
    return (QUESTION_WORDS[value[0]],) + value[1:]


def expected_claim(marking, value):
    """Whether value is a claim for the marking."""
    return expected_question(marking, question_behind(value))


def cells_of(marking, keys):
    return set().union(*[marking.marks[key] for key in keys])


def wrong_of(marking, keys):
    cells = cells_of(marking, keys)
    return [item for item, mark in enumerate(marking.marks) if item not in keys and set(mark) <= cells]


def common(one, other):
    return [item for item in one if item in other]


def yeses_of(marking):
    every = {tuple(sorted(set(keys) | set(wrong_of(marking, keys)))) for keys in every_keys(marking)}
    return sorted(every)


def needed_of(marking):
    """The needed members of the yeses."""
    members = yeses_of(marking)
    every = set(range(len(marking.marks)))
    told = []
    for member in members:
        greater = [set(other) for other in members if set(member) < set(other)]
        if set(member) != every and every.intersection(*greater) != set(member):
            told.append(member)
    return tuple(told)


def true_claim(marking, question):
    """The true claim that answers the question."""
    word, *parts = question
    if word == "wrong":
        return question + (len(wrong_of(marking, *parts)),)
    if word == "meets":
        both = cells_of(marking, parts[0]) & cells_of(marking, parts[1])
        return ("meets" if both == cells_of(marking, common(*parts)) else "strange", *parts)
    if word == "take":
        keys, item, bits = parts
        left = cells_of(marking, keys) - set(bits)
        gone = [key for key in keys if key != item and not set(marking.marks[key]) <= left]
        return ("lost" if gone else "safe", *parts)
    if word == "free":
        free = all(wrong_of(marking, keys) == [] for keys in combinations(range(len(marking.marks)), parts[0]))
        return ("free" if free else "fails", *parts)
    return ("cells", len(needed_of(marking)))


def choices_for(marking, claim):
    """For "wrong" and "meets" what may stand in each place of a paper, whatever the claim's number."""
    word, one, other = claim
    if word == "meets":
        both = cells_of(marking, one) & cells_of(marking, other)
        return [[key for key in common(one, other) if cell in marking.marks[key]] for cell in sorted(both)]
    cells = cells_of(marking, one)
    others = [mark for item, mark in enumerate(marking.marks) if item not in one]
    return [[cell for cell in mark if cell not in cells] or [-1] for mark in others]


def expected_holds(marking, claim, paper):
    """Whether paper is one for the claim, which is a claim for the marking."""
    word, *parts = claim
    many = len(marking.marks)
    if word in ("wrong", "meets"):
        choices = choices_for(marking, claim)
        if not isinstance(paper, tuple) or len(paper) != len(choices):
            return False
        if not all(type(told) is int and told in some for told, some in zip(paper, choices)):
            return False
        return word == "meets" or paper.count(-1) == parts[1]
    if word == "strange":
        both = cells_of(marking, parts[0]) & cells_of(marking, parts[1])
        return type(paper) is int and paper in both - cells_of(marking, common(*parts))
    if word in ("safe", "lost"):
        keys, item, bits = parts
        hurt = [key for key in keys if key != item and set(marking.marks[key]) & set(bits)]
        return type(paper) is int and paper in hurt if word == "lost" else same(paper, ()) and not hurt
    if word == "free":
        every = list(combinations(range(many), parts[0]))
        if not isinstance(paper, tuple) or len(paper) != len(every):
            return False
        return all(expected_holds(marking, ("wrong", keys, 0), told) for keys, told in zip(every, paper))
    if word == "fails":
        if not isinstance(paper, tuple) or len(paper) != 2:
            return False
        keys, item = paper
        if not ascends_below(keys, many) or len(keys) != parts[0]:
            return False
        return type(item) is int and item in wrong_of(marking, keys)
    return same(paper, needed_of(marking)) and len(paper) == parts[0]


def papers_for(marking, claim):
    """Papers of all forms for a claim, right ones if it is true: all of them, but for "free", of which some."""
    word, *parts = claim
    many = len(marking.marks)
    if word in ("wrong", "meets"):
        return list(product(*choices_for(marking, claim)))
    if word in ("strange", "lost"):
        return list(range(-1, 9))
    if word == "safe":
        return [()]
    if word == "fails":
        return [(keys, item) for keys in combinations(range(many), parts[0]) for item in range(many)]
    if word == "free":
        every = [choices_for(marking, ("wrong", keys, 0)) for keys in combinations(range(many), parts[0])]
        ends = [tuple(tuple(some[at] for some in choices) for choices in every) for at in (0, -1)]
        draw = random.Random(many)
        drawn = [tuple(tuple(map(draw.choice, choices)) for choices in every) for _ in range(10)]
        return ends + drawn
    return [needed_of(marking)]

"""Questions that are asked of a marking, and the claims that may answer them."""

from markfilters.basics import is_ascending, is_integer, is_integer_within, lies_within, plain
from markfilters.errors import InvalidClaim, InvalidQuestion
from markfilters.filling import wrong
from markfilters.free import is_free
from markfilters.joining import meets
from markfilters.leaving import lost, without
from markfilters.markings import are_keys
from markfilters.tellings import MOST_ITEMS, needed, yeses

# The first word of a claim, and that of the question which it may answer.
ASKED = {
    "wrong": "wrong", "meets": "meets", "strange": "meets", "safe": "take", "lost": "take",
    "free": "free", "fails": "free", "cells": "cells",
}

# Claims that tell a number behind what their question has.
COUNTING = ("wrong", "cells")


def is_question(marking, value):
    """Whether value, of any kind, is a question for this marking."""
    if not isinstance(value, tuple) or len(value) == 0:
        return False
    word, parts = value[0], value[1:]
    if word == "wrong":
        return len(parts) == 1 and are_keys(marking, parts[0])
    if word == "meets":
        return len(parts) == 2 and are_keys(marking, parts[0]) and are_keys(marking, parts[1])
    if word == "take":
        return len(parts) == 3 and can_be_taken(marking, parts[0], parts[1], parts[2])
    if word == "free":
        return len(parts) == 1 and is_integer_within(parts[0], 0, len(marking))
    return word == "cells" and len(parts) == 0 and len(marking) <= MOST_ITEMS


def can_be_taken(marking, keys, item, bits):
    """Whether they are, of any kind, keys, one of them, and an ascending tuple of cells of its mark, perhaps ()."""
    if not are_keys(marking, keys) or not is_integer(item) or item not in keys:
        return False
    return is_ascending(bits, marking.cells) and lies_within(bits, marking.marks[item])


def asked_by(value):
    """The question, perhaps of no marking, that value, of any kind, may answer if it is a claim; () if it is none."""
    if not isinstance(value, tuple) or len(value) == 0 or not isinstance(value[0], str):
        return ()
    word = ASKED.get(value[0], "")
    if word not in COUNTING:
        return (word,) + value[1:]
    if not is_integer(value[-1]) or value[-1] < 0:
        return ()
    return (word,) + value[1:-1]


def is_claim(marking, value):
    """Whether value, of any kind, is a claim for this marking."""
    return is_question(marking, asked_by(value))


def question_of(marking, claim):
    """The question that the claim may answer."""
    if not is_claim(marking, claim):
        raise InvalidClaim(claim)
    return plain(asked_by(claim))


def answer_of(marking, question):
    """The one true claim of those that may answer the question."""
    if not is_question(marking, question):
        raise InvalidQuestion(question)
    asked = plain(question)
    word, parts = asked[0], asked[1:]
    if word == "wrong":
        return asked + (len(wrong(marking, parts[0])),)
    if word == "meets":
        return ("meets" if meets(marking, parts[0], parts[1]) else "strange",) + parts
    if word == "take":
        return ("lost" if loses_others(marking, parts[0], parts[1], parts[2]) else "safe",) + parts
    if word == "free":
        return ("free" if is_free(marking, parts[0]) else "fails",) + parts
    return asked + (len(needed(len(marking), yeses(marking))),)


def loses_others(marking, keys, item, bits):
    """Whether some key besides item is said no by the cells that keys fill without bits."""
    return without(lost(marking, keys, bits), item) != ()

"""Papers, from which the truth of claims can be seen."""

from markfilters.basics import chosen, is_integer, is_same
from markfilters.claims import answer_of, is_claim
from markfilters.filling import filled, wrong
from markfilters.free import worst
from markfilters.joining import common_items, met
from markfilters.leaving import have_common, without
from markfilters.markings import are_keys
from markfilters.tellings import needed, yeses

# Stands in a paper for an item all of whose cells are filled.
ALL_FILLED = -1


def is_row_of(value, choices):
    """Whether value, of any kind, is a tuple that has in each place one of the integers that may stand there."""
    if not isinstance(value, tuple) or len(value) != len(choices):
        return False
    return all([is_one_of(member, some) for member, some in zip(value, choices)])


def is_one_of(value, some):
    """Whether value, of any kind, is one of some integers."""
    return is_integer(value) and value in some


def empty_cells(marking, keys):
    """For each item besides keys the cells of its mark that keys do not fill, or -1 alone if there are none."""
    cells = filled(marking, keys)
    others = [mark for item, mark in enumerate(marking.marks) if item not in keys]
    return [[cell for cell in mark if cell not in cells] or [ALL_FILLED] for mark in others]


def shared_by(marking, one, other):
    """For each cell that both keys fill the common keys that have it in their mark, perhaps none."""
    common = common_items(one, other)
    return [[key for key in common if cell in marking.marks[key]] for cell in met(marking, one, other)]


def strange_cells(marking, one, other):
    """The cells that both keys fill and no common key does."""
    own = filled(marking, common_items(one, other))
    return [cell for cell in met(marking, one, other) if cell not in own]


def hurt(marking, keys, item, bits):
    """The keys besides item that have a cell of bits in their mark."""
    return [key for key in without(keys, item) if have_common(marking.marks[key], bits)]


def needed_of(marking):
    """The needed members of the yeses of the marking."""
    return needed(len(marking), yeses(marking))


def paper_of(marking, question):
    """Some paper for the answer to the question."""
    # answer_of refuses what is no question.
    claim = answer_of(marking, question)
    word, parts = claim[0], claim[1:]
    if word == "wrong":
        return firsts(empty_cells(marking, parts[0]))
    if word == "meets":
        return firsts(shared_by(marking, parts[0], parts[1]))
    if word == "strange":
        return strange_cells(marking, parts[0], parts[1])[0]
    if word == "safe":
        return ()
    if word == "lost":
        return hurt(marking, parts[0], parts[1], parts[2])[0]
    if word == "free":
        return tuple([firsts(empty_cells(marking, keys)) for keys in chosen(len(marking), parts[0])])
    if word == "fails":
        keys = worst(marking, parts[0])[1]
        return (keys, wrong(marking, keys)[0])
    return needed_of(marking)


def firsts(choices):
    """The tuple of the first member of each."""
    return tuple([some[0] for some in choices])


def claim_holds(marking, claim, paper):
    """Whether claim, of any kind, is a claim for this marking and paper, of any kind, a paper for it."""
    if not is_claim(marking, claim):
        return False
    word, parts = claim[0], claim[1:]
    if word == "wrong":
        return shows_wrong(marking, parts[0], parts[1], paper)
    if word == "meets":
        return is_row_of(paper, shared_by(marking, parts[0], parts[1]))
    if word == "strange":
        return is_one_of(paper, strange_cells(marking, parts[0], parts[1]))
    if word == "safe":
        return is_same(paper, ()) and hurt(marking, parts[0], parts[1], parts[2]) == []
    if word == "lost":
        return is_one_of(paper, hurt(marking, parts[0], parts[1], parts[2]))
    if word == "free":
        return shows_free(marking, parts[0], paper)
    if word == "fails":
        return shows_failing(marking, parts[0], paper)
    return is_same(paper, needed_of(marking)) and len(paper) == parts[0]


def shows_wrong(marking, keys, many, paper):
    """Whether paper, of any kind, is one for so many wrong yeses of the keys."""
    if not is_row_of(paper, empty_cells(marking, keys)):
        return False
    return len([told for told in paper if told == ALL_FILLED]) == many


def shows_free(marking, size, paper):
    """Whether paper, of any kind, is one for no wrong yeses of any keys of this size."""
    every = chosen(len(marking), size)
    if not isinstance(paper, tuple) or len(paper) != len(every):
        return False
    return all([shows_wrong(marking, keys, 0, told) for keys, told in zip(every, paper)])


def shows_failing(marking, size, paper):
    """Whether paper, of any kind, is a pair of keys of this size and an item besides them that they say yes to."""
    if not isinstance(paper, tuple) or len(paper) != 2:
        return False
    keys, item = paper
    if not are_keys(marking, keys) or len(keys) != size:
        return False
    return is_one_of(item, wrong(marking, keys))

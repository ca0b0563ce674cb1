"""The share of all ways of marking by which an item that is no key is said yes."""

from math import comb

from markfilters.basics import is_integer_within
from markfilters.errors import InvalidNumber
from markfilters.ratios import is_less, ratio

MOST_CELLS = 12
MOST_KEYS = 8


def failing(cells, each, many):
    """The share of the ways to mark many keys and one more item, each in each cells, that say yes to this item."""
    if not is_integer_within(cells, 1, MOST_CELLS):
        raise InvalidNumber(cells)
    if not is_integer_within(each, 1, cells):
        raise InvalidNumber(each)
    if not is_integer_within(many, 0, MOST_KEYS):
        raise InvalidNumber(many)
    # Cells differ by nothing but their numbers: the share is the same for each mark of the item,
    # so the keys alone are gone through, for one mark.
    ways = [1] + [0] * each
    for _ in range(many):
        ways = with_one_key_more(cells, each, ways)
    return ratio(ways[each], sum(ways))


def with_one_key_more(cells, each, ways):
    """In how many ways keys fill so many cells of the item's mark, for 0 to each; ways tells it for a key less."""
    more = [0] * (each + 1)
    for full, before in enumerate(ways):
        empty = each - full
        for newly in range(empty + 1):
            # The key has newly of the mark's empty cells, its other cells are none of these.
            choices = comb(empty, newly) * comb(cells - empty, each - newly)
            more[full + newly] += before * choices
    return more


def best_each(cells, many):
    """The least number of cells for each for which the share of failing is least."""
    # failing refuses wrong cells and many; 1 for each is never refused behind right cells.
    best, least = 1, failing(cells, 1, many)
    for each in range(2, cells + 1):
        share = failing(cells, each, many)
        if is_less(share, least):
            best, least = each, share
    return best

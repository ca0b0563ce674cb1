import unittest
from fractions import Fraction
from itertools import combinations, product
from math import comb, gcd

from cases import Case
from samples import NOT_INTEGERS
from markfilters.errors import InvalidNumber
from markfilters.shares import best_each, failing

WRONG_CELLS = [0, 13, -1, 999999999999, -999999999999] + NOT_INTEGERS
WRONG_MANY = [-1, 9, -8, 999999999999, -999999999999] + NOT_INTEGERS


def all_arguments():
    for cells in range(1, 13):
        for each in range(1, cells + 1):
            for many in range(9):
                yield cells, each, many


def by_all_ways(cells, each, many):
    """The share, by each way to mark the keys and the item."""
    marks = list(combinations(range(cells), each))
    yes = total = 0
    for *keys, item in product(marks, repeat=many + 1):
        total += 1
        yes += set(item) <= set().union(*keys)
    return Fraction(yes, total)


def by_cells_left_out(cells, each, many):
    """The share, by counting for each choice of the item's cells the ways in which no key has one of them."""
    ways = sum((-1) ** out * comb(each, out) * comb(cells - out, each) ** many for out in range(each + 1))
    return Fraction(ways, comb(cells, each) ** many)


class FailingTest(Case):
    def ratio(self, told):
        self.plain_integers(told)
        self.assertEqual(len(told), 2)
        self.assertGreaterEqual(told[0], 0)
        self.assertGreater(told[1], 0)
        self.assertEqual(gcd(*told), 1)
        return Fraction(*told)

    def test_examples(self):
        self.assertEqual(failing(2, 1, 1), (1, 2))
        self.assertEqual(failing(2, 1, 2), (3, 4))
        self.assertEqual(failing(3, 1, 1), (1, 3))
        self.assertEqual(failing(3, 2, 1), (1, 3))
        self.assertEqual(failing(3, 2, 2), (7, 9))
        self.assertEqual(failing(4, 2, 1), (1, 6))
        self.assertEqual(failing(12, 6, 1), (1, 924))
        self.assertEqual(failing(12, 1, 8), (12 ** 8 - 11 ** 8, 12 ** 8))

    def test_small_ones_against_all_ways_of_marking(self):
        for cells, each, many in all_arguments():
            if comb(cells, each) ** (many + 1) <= 1300:
                with self.subTest(cells=cells, each=each, many=many):
                    told = self.ratio(failing(cells, each, many))
                    self.assertEqual(told, by_all_ways(cells, each, many))

    def test_all_against_another_way_of_counting(self):
        for cells, each, many in all_arguments():
            with self.subTest(cells=cells, each=each, many=many):
                told = self.ratio(failing(cells, each, many))
                self.assertEqual(told, by_cells_left_out(cells, each, many))
                self.assertLessEqual(told, 1)

    def test_no_keys_say_no(self):
        for cells in range(1, 13):
            for each in range(1, cells + 1):
                self.assertEqual(failing(cells, each, 0), (0, 1))

    def test_all_cells_for_each_say_yes_with_a_key(self):
        for cells in range(1, 13):
            for many in range(1, 9):
                self.assertEqual(failing(cells, cells, many), (1, 1))

    def test_wrong_cells(self):
        for cells in WRONG_CELLS:
            with self.subTest(cells=cells):
                self.refused_with(InvalidNumber, cells, failing, cells, 1, 1)

    def test_wrong_each(self):
        for each in [0, -1, 999999999999, -999999999999] + NOT_INTEGERS:
            with self.subTest(each=each):
                self.refused_with(InvalidNumber, each, failing, 5, each, 1)

    def test_each_is_up_to_cells(self):
        for cells in range(1, 13):
            each = cells + 1
            self.refused_with(InvalidNumber, each, failing, cells, each, 1)
            self.refused_with(InvalidNumber, 0, failing, cells, 0, 1)

    def test_wrong_many(self):
        for many in WRONG_MANY:
            with self.subTest(many=many):
                self.refused_with(InvalidNumber, many, failing, 5, 2, many)
                self.refused_with(InvalidNumber, many, failing, 1, 1, many)

    def test_several_wrong_tell_of_the_first(self):
        for cells, other in product([0, 13, None, "3", [4]], [99, -7, True, None, (1,), [2]]):
            self.refused_with(InvalidNumber, cells, failing, cells, other, 1)
            self.refused_with(InvalidNumber, cells, failing, cells, 1, other)
            self.refused_with(InvalidNumber, cells, failing, cells, other, [])
        for each, many in product([0, 4, True, None, [1]], [99, -7, False, "2", [2]]):
            self.refused_with(InvalidNumber, each, failing, 3, each, many)

    def test_by_name(self):
        self.assertEqual(failing(many=1, each=2, cells=4), (1, 6))


class BestEachTest(Case):
    def test_examples(self):
        self.assertEqual(best_each(1, 8), 1)
        self.assertEqual(best_each(2, 1), 1)
        self.assertEqual(best_each(4, 1), 2)
        self.assertEqual(best_each(12, 1), 6)
        self.assertEqual(best_each(12, 8), 1)

    def test_the_least_of_several_with_the_least_share(self):
        # 5 cells with one key: 2 of 5 and 3 of 5 are chosen in equally many ways.
        self.assertEqual(failing(5, 2, 1), failing(5, 3, 1))
        self.assertEqual(best_each(5, 1), 2)

    def test_no_keys(self):
        for cells in range(1, 13):
            self.assertEqual(best_each(cells, 0), 1)

    def test_all(self):
        told = []
        for cells in range(1, 13):
            for many in range(9):
                shares = [by_cells_left_out(cells, each, many) for each in range(1, cells + 1)]
                told.append(best_each(cells, many))
                self.assertIs(type(told[-1]), int)
                self.assertEqual(told[-1], shares.index(min(shares)) + 1)
        self.assertGreater(len(set(told)), 4)

    def test_wrong_cells(self):
        for cells in WRONG_CELLS:
            with self.subTest(cells=cells):
                self.refused_with(InvalidNumber, cells, best_each, cells, 1)

    def test_wrong_many(self):
        for many in WRONG_MANY:
            with self.subTest(many=many):
                self.refused_with(InvalidNumber, many, best_each, 5, many)
                self.refused_with(InvalidNumber, many, best_each, 1, many)

    def test_both_wrong_tell_of_cells(self):
        for cells, many in product(WRONG_CELLS, WRONG_MANY):
            self.refused_with(InvalidNumber, cells, best_each, cells, many)

    def test_by_name(self):
        self.assertEqual(best_each(many=1, cells=4), 2)


class BasicsTest(Case):
    def test_refused_lists_are_not_changed(self):
        value = [3, [1]]
        self.refused_with(InvalidNumber, value, failing, value, 1, 1)
        self.refused_with(InvalidNumber, value, failing, 4, value, 1)
        self.refused_with(InvalidNumber, value, failing, 4, 1, value)
        self.refused_with(InvalidNumber, value, best_each, value, 1)
        self.refused_with(InvalidNumber, value, best_each, 4, value)
        self.assertEqual(value, [3, [1]])

    def test_equal_arguments_tell_equal_results(self):
        for cells, each, many in all_arguments():
            self.assertEqual(failing(cells, each, many), failing(cells, each, many))


if __name__ == "__main__":
    unittest.main()

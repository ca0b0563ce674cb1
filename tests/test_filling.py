import unittest
from itertools import combinations

from cases import Case
from samples import FOUR, MARKINGS, NOT_INTEGERS, Plain, not_ascending_below, tuples_below
from markfilters.errors import InvalidBits, InvalidKeys, InvalidNumber
from markfilters.filling import filled, says, wrong, wrong_total
from markfilters.markings import Marking


class FilledTest(Case):
    def test_examples(self):
        self.assertEqual(filled(FOUR, ()), ())
        self.assertEqual(filled(FOUR, (0,)), (0,))
        self.assertEqual(filled(FOUR, (0, 1)), (0, 1))
        self.assertEqual(filled(FOUR, (0, 3)), (0, 2, 3))
        self.assertEqual(filled(FOUR, (2, 3)), (0, 1, 2, 3))
        self.assertEqual(filled(FOUR, (0, 1, 2, 3)), (0, 1, 2, 3))

    def test_cells_ascend_whatever_the_order_of_marks(self):
        self.assertEqual(filled(Marking(8, ((6, 7), (0, 5), (3,))), (0, 1, 2)), (0, 3, 5, 6, 7))

    def test_a_cell_that_is_filled_twice_is_told_once(self):
        self.assertEqual(filled(Marking(3, ((0, 1), (0, 1), (1, 2))), (0, 1, 2)), (0, 1, 2))

    def test_all_keys(self):
        for marking in MARKINGS:
            for keys in tuples_below(len(marking)):
                told = filled(marking, keys)
                self.plain(told)
                self.assertEqual(set(told), self.expected_cells(marking, keys))

    def test_cells_of_joined_keys_are_the_joined_cells(self):
        for marking in MARKINGS[:6]:
            every = tuples_below(len(marking))
            for one in every:
                for other in every:
                    both = tuple(sorted(set(one) | set(other)))
                    cells = set(filled(marking, one)) | set(filled(marking, other))
                    self.assertEqual(filled(marking, both), tuple(sorted(cells)))

    def test_no_keys(self):
        for marking in (FOUR, MARKINGS[0], MARKINGS[6]):
            for value in not_ascending_below(len(marking)):
                self.refused(InvalidKeys, value, filled, marking, value)

    def test_keys_are_items_not_cells(self):
        keys = (1,)
        self.refused(InvalidKeys, keys, filled, Marking(8, ((0, 7),)), keys)
        self.assertEqual(filled(Marking(1, ((0,),) * 7), (6,)), (0,))

    def test_by_name(self):
        self.assertEqual(filled(keys=(1, 3), marking=FOUR), (1, 2, 3))

    def test_tuple_of_its_own_class(self):
        self.plain(filled(FOUR, Plain((0, 1))))


class SaysTest(Case):
    def test_examples(self):
        self.assertEqual(says(FOUR, ()), ())
        self.assertEqual(says(FOUR, (0,)), (0,))
        self.assertEqual(says(FOUR, (0, 1)), (0, 1, 2))
        self.assertEqual(says(FOUR, (2,)), ())
        self.assertEqual(says(FOUR, (2, 3)), (3,))
        self.assertEqual(says(FOUR, (1, 2, 3)), (1, 3))
        self.assertEqual(says(FOUR, (0, 1, 2, 3)), (0, 1, 2, 3))

    def test_all_bits(self):
        for marking in MARKINGS:
            for bits in tuples_below(marking.cells):
                told = says(marking, bits)
                self.plain(told)
                self.assertEqual(list(told), self.expected_yes(marking, bits))

    def test_no_cells_say_yes_to_none_and_all_cells_to_all(self):
        for marking in MARKINGS:
            self.assertEqual(says(marking, ()), ())
            self.assertEqual(says(marking, tuple(range(marking.cells))), tuple(range(len(marking))))

    def test_keys_are_said_yes(self):
        for marking in MARKINGS:
            for keys in tuples_below(len(marking)):
                self.assertLessEqual(set(keys), set(says(marking, filled(marking, keys))))

    def test_no_bits(self):
        for marking in (FOUR, MARKINGS[0], MARKINGS[6]):
            for value in not_ascending_below(marking.cells):
                self.refused(InvalidBits, value, says, marking, value)

    def test_bits_are_cells_not_items(self):
        bits = (1,)
        self.refused(InvalidBits, bits, says, Marking(1, ((0,),) * 7), bits)
        self.assertEqual(says(Marking(8, ((7,),)), (6, 7)), (0,))

    def test_by_name(self):
        self.assertEqual(says(bits=(0, 2, 3), marking=FOUR), (0, 3))

    def test_tuple_of_its_own_class(self):
        self.plain(says(FOUR, Plain((0, 1))))


class WrongTest(Case):
    def test_examples(self):
        self.assertEqual(wrong(FOUR, ()), ())
        self.assertEqual(wrong(FOUR, (0,)), ())
        self.assertEqual(wrong(FOUR, (2,)), (0, 1))
        self.assertEqual(wrong(FOUR, (0, 1)), (2,))
        self.assertEqual(wrong(FOUR, (0, 3)), ())
        self.assertEqual(wrong(FOUR, (0, 1, 3)), (2,))
        self.assertEqual(wrong(FOUR, (0, 1, 2, 3)), ())

    def test_equal_marks_are_said_yes_wrongly(self):
        self.assertEqual(wrong(Marking(1, ((0,),) * 7), (3,)), (0, 1, 2, 4, 5, 6))

    def test_all_keys(self):
        for marking in MARKINGS:
            for keys in tuples_below(len(marking)):
                told = wrong(marking, keys)
                self.plain(told)
                yes = self.expected_yes(marking, self.expected_cells(marking, keys))
                self.assertEqual(set(told), set(yes) - set(keys))

    def test_neither_no_keys_nor_all_keys_say_a_wrong_yes(self):
        for marking in MARKINGS:
            self.assertEqual(wrong(marking, ()), ())
            self.assertEqual(wrong(marking, tuple(range(len(marking)))), ())

    def test_no_keys(self):
        for marking in (FOUR, MARKINGS[0], MARKINGS[6]):
            for value in not_ascending_below(len(marking)):
                self.refused(InvalidKeys, value, wrong, marking, value)

    def test_by_name(self):
        self.assertEqual(wrong(keys=(2,), marking=FOUR), (0, 1))

    def test_tuple_of_its_own_class(self):
        self.plain(wrong(FOUR, Plain((0, 1))))


class WrongTotalTest(Case):
    def test_examples(self):
        self.assertEqual([wrong_total(FOUR, size) for size in range(5)], [0, 2, 5, 3, 0])
        self.assertEqual([wrong_total(Marking(1, ((0,),)), size) for size in range(2)], [0, 0])

    def test_equal_marks(self):
        # Each of the keys of a size from 1 on says yes to all of the others.
        totals = [wrong_total(Marking(1, ((0,),) * 7), size) for size in range(8)]
        self.assertEqual(totals, [0, 42, 105, 140, 105, 42, 7, 0])

    def test_all_sizes(self):
        for marking in MARKINGS:
            for size in range(len(marking) + 1):
                told = wrong_total(marking, size)
                self.assertIs(type(told), int)
                total = 0
                for keys in combinations(range(len(marking)), size):
                    yes = self.expected_yes(marking, self.expected_cells(marking, keys))
                    total += len(set(yes) - set(keys))
                self.assertEqual(told, total)

    def test_sizes_out_of_bounds(self):
        for marking in MARKINGS:
            for size in [-1, -7, len(marking) + 1, 8, 100, 999999999999]:
                self.refused(InvalidNumber, size, wrong_total, marking, size)

    def test_sizes_of_another_kind(self):
        for size in NOT_INTEGERS:
            self.refused(InvalidNumber, size, wrong_total, FOUR, size)

    def test_the_size_is_up_to_the_items_not_the_cells(self):
        self.refused(InvalidNumber, 2, wrong_total, Marking(8, ((0,),)), 2)
        self.assertEqual(wrong_total(Marking(1, ((0,),) * 3), 3), 0)

    def test_by_name(self):
        self.assertEqual(wrong_total(size=2, marking=FOUR), 5)


class BasicsTest(Case):
    def test_equal_arguments_tell_equal_results(self):
        for marking in MARKINGS:
            twin = Marking(marking.cells, marking.marks)
            for keys in tuples_below(len(marking)):
                self.assertEqual(filled(marking, keys), filled(twin, keys))
                self.assertEqual(wrong(marking, keys), wrong(twin, keys))

    def test_arguments_are_not_changed(self):
        for marking in MARKINGS:
            cells, marks = marking.cells, marking.marks
            keys, bits = tuple(range(len(marking))), tuple(range(marking.cells))
            filled(marking, keys), wrong(marking, keys), says(marking, bits), wrong_total(marking, 1)
            self.assertEqual((marking.cells, marking.marks), (cells, marks))
            self.assertEqual(keys, tuple(range(len(marks))))
            self.assertEqual(bits, tuple(range(cells)))

    def test_refused_lists_are_not_changed(self):
        for call, kind in [(filled, InvalidKeys), (wrong, InvalidKeys), (says, InvalidBits)]:
            value = [1, 0, [2]]
            self.refused(kind, value, call, FOUR, value)
            self.assertEqual(value, [1, 0, [2]])


if __name__ == "__main__":
    unittest.main()

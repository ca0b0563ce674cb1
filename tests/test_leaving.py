import unittest
from itertools import product

from cases import Case
from samples import FOUR, MARKINGS, NOT_INTEGERS, Plain, not_ascending_below, tuples_below
from markfilters.errors import InvalidBits, InvalidItem, InvalidKeys
from markfilters.filling import filled, says
from markfilters.leaving import counts, lost, misled, own_cells
from markfilters.markings import Marking

# 5 is said yes wrongly by the keys 0 to 2: it has cells of marks of 0 and 2, not of that of 1.
MISLEADING = Marking(6, ((0, 1), (2, 3), (4, 5), (1, 2), (2,), (0, 5)))

SAMPLES = MARKINGS + [MISLEADING]

SMALL = [marking for marking in SAMPLES if len(marking) * marking.cells <= 24]

NO_KEYS = [(6,), (1, 0), (0, 0), (-1,), (True,), [0], None, "01", ((0,),), 0, {0}]
NO_ITEMS = [-1, 6, 99, True, False, None, "0", (0,), [0], ((),), MISLEADING]


def sample_keys():
    for marking in SAMPLES:
        for keys in tuples_below(len(marking)):
            yield marking, keys


class LeavingCase(Case):
    def expected_counts(self, marking, keys):
        return [sum(cell in marking.marks[key] for key in keys) for cell in range(marking.cells)]

    def expected_misled(self, marking, keys, item):
        left = self.expected_counts(marking, keys)
        for cell in marking.marks[item]:
            left[cell] -= 1
        return [key for key in keys if key != item and 0 in [left[cell] for cell in marking.marks[key]]]


class OwnCellsTest(LeavingCase):
    def test_examples(self):
        self.assertEqual(own_cells(FOUR, (0,), 0), (0,))
        self.assertEqual(own_cells(FOUR, (0, 1), 1), (1,))
        self.assertEqual(own_cells(FOUR, (0, 2), 0), ())
        self.assertEqual(own_cells(FOUR, (0, 2), 2), (1,))
        self.assertEqual(own_cells(FOUR, (0, 1, 2), 2), ())
        self.assertEqual(own_cells(FOUR, (0, 1, 2, 3), 3), (2, 3))

    def test_equal_marks_have_no_cells_of_their_own(self):
        self.assertEqual(own_cells(Marking(2, ((0, 1), (0, 1))), (0, 1), 0), ())
        self.assertEqual(own_cells(Marking(2, ((0, 1), (0, 1))), (1,), 1), (0, 1))

    def test_marks_of_items_that_are_no_keys_do_not_count(self):
        self.assertEqual(own_cells(Marking(3, ((0, 1), (0, 2), (1,))), (0, 2), 0), (0,))

    def test_every_key_of_all_keys(self):
        for marking, keys in sample_keys():
            for item in keys:
                told = own_cells(marking, keys, item)
                self.plain(told)
                others = self.expected_cells(marking, [key for key in keys if key != item])
                self.assertEqual(set(told), set(marking.marks[item]) - others)

    def test_keys_without_it_fill_what_is_left(self):
        for marking, keys in sample_keys():
            for item in keys:
                rest = tuple(key for key in keys if key != item)
                own = own_cells(marking, keys, item)
                left = [cell for cell in filled(marking, keys) if cell not in own]
                self.assertEqual(filled(marking, rest), tuple(left))

    def test_items_that_are_no_keys(self):
        for marking, keys in sample_keys():
            for item in range(-1, 9):
                if item not in keys:
                    self.refused(InvalidItem, item, own_cells, marking, keys, item)

    def test_an_item_that_is_said_yes_but_no_key(self):
        self.assertIn(2, says(FOUR, filled(FOUR, (0, 1))))
        self.refused(InvalidItem, 2, own_cells, FOUR, (0, 1), 2)

    def test_items_of_another_kind(self):
        for item in NOT_INTEGERS:
            self.refused(InvalidItem, item, own_cells, FOUR, (0, 1), item)
            self.refused(InvalidItem, item, own_cells, FOUR, (), item)

    def test_no_keys(self):
        for marking in (FOUR, MARKINGS[0], MARKINGS[6]):
            for value in not_ascending_below(len(marking)):
                self.refused(InvalidKeys, value, own_cells, marking, value, 0)

    def test_both_wrong_tells_of_keys(self):
        for keys, item in product(NO_KEYS, NO_ITEMS):
            self.refused(InvalidKeys, keys, own_cells, MISLEADING, keys, item)

    def test_by_name(self):
        self.assertEqual(own_cells(item=3, keys=(2, 3), marking=FOUR), (2, 3))

    def test_tuple_of_its_own_class(self):
        self.plain(own_cells(FOUR, Plain((0, 1)), 1))


class LostTest(LeavingCase):
    def test_examples(self):
        self.assertEqual(lost(FOUR, (0, 1), ()), ())
        self.assertEqual(lost(FOUR, (0, 1), (0,)), (0,))
        self.assertEqual(lost(FOUR, (0, 2), (1,)), (2,))
        self.assertEqual(lost(FOUR, (0, 2), (0,)), (0, 2))
        self.assertEqual(lost(FOUR, (0, 1, 2, 3), (0, 2)), (0, 2, 3))
        self.assertEqual(lost(FOUR, (), (0, 1, 2, 3)), ())

    def test_cells_that_are_not_filled_lose_nobody(self):
        self.assertEqual(lost(FOUR, (0, 1), (2, 3)), ())
        self.assertEqual(lost(FOUR, (0,), (1, 2, 3)), ())

    def test_items_that_are_no_keys_are_not_told(self):
        self.assertEqual(lost(FOUR, (2,), (0,)), (2,))

    def test_all_keys_and_bits(self):
        for marking in SMALL:
            for keys, bits in product(tuples_below(len(marking)), tuples_below(marking.cells)):
                self.look_at(marking, keys, bits)

    def test_some_keys_and_bits_of_great_markings(self):
        for marking in SAMPLES:
            for keys in tuples_below(len(marking))[::3]:
                for bits in tuples_below(marking.cells)[::7]:
                    self.look_at(marking, keys, bits)

    def look_at(self, marking, keys, bits):
        told = lost(marking, keys, bits)
        self.plain(told)
        left = self.expected_cells(marking, keys) - set(bits)
        self.assertEqual(list(told), [key for key in keys if not set(marking.marks[key]) <= left])

    def test_no_bits_and_all_cells(self):
        for marking, keys in sample_keys():
            self.assertEqual(lost(marking, keys, ()), ())
            self.assertEqual(lost(marking, keys, tuple(range(marking.cells))), keys)

    def test_no_other_key_is_lost_exactly_if_all_bits_are_own_cells(self):
        seen = []
        for marking, keys in sample_keys():
            for item in keys:
                own = set(own_cells(marking, keys, item))
                mark = marking.marks[item]
                for places in tuples_below(len(mark)):
                    bits = tuple(mark[place] for place in places)
                    others = [key for key in lost(marking, keys, bits) if key != item]
                    self.assertIs(others == [], set(bits) <= own)
                    seen.append(others == [])
        self.assertGreater(seen.count(True), 100)
        self.assertGreater(seen.count(False), 100)

    def test_no_keys(self):
        for marking in (FOUR, MARKINGS[0], MARKINGS[6]):
            for value in not_ascending_below(len(marking)):
                self.refused(InvalidKeys, value, lost, marking, value, (0,))

    def test_no_cells(self):
        for marking in (FOUR, MARKINGS[0], MARKINGS[6]):
            for value in not_ascending_below(marking.cells):
                self.refused(InvalidBits, value, lost, marking, (0,), value)
                self.refused(InvalidBits, value, lost, marking, (), value)

    def test_keys_are_items_and_bits_are_cells(self):
        seven, one = Marking(1, ((0,),) * 7), Marking(8, ((6, 7),))
        wrong = (1,)
        self.refused(InvalidBits, wrong, lost, seven, (1,), wrong)
        self.refused(InvalidKeys, wrong, lost, one, wrong, (1,))
        self.assertEqual(lost(seven, (5, 6), (0,)), (5, 6))
        self.assertEqual(lost(one, (0,), (7,)), (0,))

    def test_both_wrong_tells_of_keys(self):
        for keys, bits in product(NO_KEYS, NO_KEYS):
            self.refused(InvalidKeys, keys, lost, MISLEADING, keys, bits)

    def test_by_name(self):
        self.assertEqual(lost(bits=(2,), keys=(1, 3), marking=FOUR), (3,))

    def test_tuple_of_its_own_class(self):
        self.plain(lost(FOUR, Plain((0, 1)), Plain((0, 1))))


class CountsTest(LeavingCase):
    def test_examples(self):
        self.assertEqual(counts(FOUR, ()), (0, 0, 0, 0))
        self.assertEqual(counts(FOUR, (0,)), (1, 0, 0, 0))
        self.assertEqual(counts(FOUR, (0, 2)), (2, 1, 0, 0))
        self.assertEqual(counts(FOUR, (0, 1, 2, 3)), (2, 2, 1, 1))
        self.assertEqual(counts(Marking(1, ((0,),) * 7), (0, 1, 2, 3, 4, 5, 6)), (7,))

    def test_all_keys(self):
        for marking, keys in sample_keys():
            told = counts(marking, keys)
            self.plain_integers(told)
            self.assertEqual(list(told), self.expected_counts(marking, keys))

    def test_filled_cells_are_those_with_a_count(self):
        for marking, keys in sample_keys():
            told = counts(marking, keys)
            cells = [cell for cell in range(marking.cells) if told[cell] > 0]
            self.assertEqual(filled(marking, keys), tuple(cells))

    def test_own_cells_are_those_of_the_mark_with_a_count_of_1(self):
        for marking, keys in sample_keys():
            told = counts(marking, keys)
            for item in keys:
                own = [cell for cell in marking.marks[item] if told[cell] == 1]
                self.assertEqual(own_cells(marking, keys, item), tuple(own))

    def test_no_keys(self):
        for marking in (FOUR, MARKINGS[0], MARKINGS[6]):
            for value in not_ascending_below(len(marking)):
                self.refused(InvalidKeys, value, counts, marking, value)

    def test_by_name(self):
        self.assertEqual(counts(keys=(1, 2), marking=FOUR), (1, 2, 0, 0))

    def test_tuple_of_its_own_class(self):
        self.plain_integers(counts(FOUR, Plain((0, 1))))


class MisledTest(LeavingCase):
    def test_a_wrong_yes_misleads_keys(self):
        self.assertEqual(misled(FOUR, (0, 1), 2), (0, 1))
        self.assertEqual(misled(FOUR, (2,), 0), (2,))
        self.assertEqual(misled(MISLEADING, (0, 1, 2), 5), (0, 2))
        self.assertEqual(misled(MISLEADING, (0, 1, 2), 3), (0, 1))
        self.assertEqual(misled(MISLEADING, (0, 1, 2), 4), (1,))

    def test_a_wrong_yes_misleads_nobody_whose_cells_are_filled_twice(self):
        marking = Marking(2, ((0,), (0,), (0,)))
        self.assertEqual(misled(marking, (0, 1), 2), ())
        self.assertEqual(misled(marking, (0,), 2), (0,))

    def test_a_key_that_is_taken_out_misleads_nobody(self):
        for marking, keys in sample_keys():
            for item in keys:
                self.assertEqual(misled(marking, keys, item), ())

    def test_all_keys_and_all_yeses(self):
        wrongly = []
        for marking, keys in sample_keys():
            for item in self.expected_yes(marking, self.expected_cells(marking, keys)):
                told = misled(marking, keys, item)
                self.plain(told)
                self.assertEqual(list(told), self.expected_misled(marking, keys, item))
                if item not in keys:
                    wrongly.append(told != ())
        self.assertIn(True, wrongly)
        self.assertIn(False, wrongly)

    def test_items_that_are_said_no(self):
        for marking, keys in sample_keys():
            yes = self.expected_yes(marking, self.expected_cells(marking, keys))
            for item in range(len(marking)):
                if item not in yes:
                    self.refused(InvalidItem, item, misled, marking, keys, item)

    def test_no_items(self):
        for item in [-1, -4, 4, 5, 99, 999999999999] + NOT_INTEGERS:
            self.refused(InvalidItem, item, misled, FOUR, (0, 1, 2, 3), item)
            self.refused(InvalidItem, item, misled, FOUR, (), item)

    def test_no_keys(self):
        for marking in (FOUR, MARKINGS[0], MARKINGS[6]):
            for value in not_ascending_below(len(marking)):
                self.refused(InvalidKeys, value, misled, marking, value, 0)

    def test_both_wrong_tells_of_keys(self):
        for keys, item in product(NO_KEYS, NO_ITEMS):
            self.refused(InvalidKeys, keys, misled, MISLEADING, keys, item)

    def test_by_name(self):
        self.assertEqual(misled(item=2, keys=(0, 1), marking=FOUR), (0, 1))

    def test_tuple_of_its_own_class(self):
        self.plain(misled(FOUR, Plain((0, 1)), 2))


class BasicsTest(LeavingCase):
    def test_arguments_are_not_changed(self):
        for marking in SAMPLES:
            cells, marks = marking.cells, marking.marks
            keys, bits = tuple(range(len(marking))), tuple(range(marking.cells))
            own_cells(marking, keys, 0), lost(marking, keys, bits)
            counts(marking, keys), misled(marking, keys, 0)
            self.assertEqual((marking.cells, marking.marks), (cells, marks))
            self.assertEqual((keys, bits), (tuple(range(len(marks))), tuple(range(cells))))

    def test_refused_lists_are_not_changed(self):
        value = [1, 0, [2]]
        for call in (own_cells, misled):
            self.refused(InvalidKeys, value, call, FOUR, value, 0)
            self.refused(InvalidItem, value, call, FOUR, (0,), value)
        self.refused(InvalidKeys, value, lost, FOUR, value, ())
        self.refused(InvalidBits, value, lost, FOUR, (0,), value)
        self.refused(InvalidKeys, value, counts, FOUR, value)
        self.assertEqual(value, [1, 0, [2]])

    def test_equal_arguments_tell_equal_results(self):
        for marking, keys in sample_keys():
            twin = Marking(marking.cells, marking.marks)
            self.assertEqual(counts(marking, keys), counts(twin, keys))
            self.assertEqual(lost(marking, keys, (0,)), lost(twin, keys, (0,)))
            for item in keys:
                self.assertEqual(own_cells(marking, keys, item), own_cells(twin, keys, item))


if __name__ == "__main__":
    unittest.main()

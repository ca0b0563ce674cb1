import unittest
from itertools import product

from cases import Case
from samples import FOUR, MARKINGS, Plain, not_ascending_below, tuples_below
from markfilters.errors import InvalidKeys, Undefined
from markfilters.filling import filled, says
from markfilters.joining import folded, meets, met, met_wrong
from markfilters.markings import Marking

CALLS = [met, meets, met_wrong]

# The samples with no more than 2048 pairs of keys, and the greatest one with few of its keys.
FEW = [marking for marking in MARKINGS if len(marking) <= 4]
LONG = [marking for marking in MARKINGS if len(marking) > 4]


def pairs():
    """Markings, each with two sets of keys: all of them where there are few."""
    for marking in FEW:
        for one, other in product(tuples_below(len(marking)), repeat=2):
            yield marking, one, other
    for marking in LONG:
        every = tuples_below(len(marking))
        for one, other in product(every, every[::5] + [every[-1]]):
            yield marking, one, other


class JoiningCase(Case):
    def expected_met(self, marking, one, other):
        return self.expected_cells(marking, one) & self.expected_cells(marking, other)


class MetTest(JoiningCase):
    def test_examples(self):
        self.assertEqual(met(FOUR, (0,), (1,)), ())
        self.assertEqual(met(FOUR, (0,), (2,)), (0,))
        self.assertEqual(met(FOUR, (0, 1), (2,)), (0, 1))
        self.assertEqual(met(FOUR, (0, 3), (2, 3)), (0, 2, 3))
        self.assertEqual(met(FOUR, (2,), (3,)), ())
        self.assertEqual(met(FOUR, (0, 1, 2, 3), (1, 3)), (1, 2, 3))

    def test_cells_ascend_whatever_the_order_of_marks(self):
        marking = Marking(8, ((6, 7), (0, 5), (3,), (0, 3, 7)))
        self.assertEqual(met(marking, (0, 1, 2), (3,)), (0, 3, 7))
        self.assertEqual(met(marking, (3,), (0, 1, 2)), (0, 3, 7))

    def test_all_pairs(self):
        for marking, one, other in pairs():
            told = met(marking, one, other)
            self.plain(told)
            self.assertEqual(set(told), self.expected_met(marking, one, other))

    def test_equal_keys_meet_in_all_that_they_fill(self):
        for marking in MARKINGS:
            for keys in tuples_below(len(marking)):
                self.assertEqual(met(marking, keys, keys), filled(marking, keys))

    def test_no_keys_fill_nothing_and_all_items_fill_all_of_the_others(self):
        for marking in MARKINGS:
            every = tuple(range(len(marking)))
            for keys in tuples_below(len(marking)):
                self.assertEqual(met(marking, (), keys), ())
                self.assertEqual(met(marking, keys, ()), ())
                self.assertEqual(met(marking, every, keys), filled(marking, keys))
                self.assertEqual(met(marking, keys, every), filled(marking, keys))

    def test_what_common_keys_fill_is_filled_by_both(self):
        for marking, one, other in pairs():
            common = tuple(sorted(set(one) & set(other)))
            self.assertLessEqual(set(filled(marking, common)), set(met(marking, one, other)))


class MeetsTest(JoiningCase):
    def test_examples(self):
        self.assertIs(meets(FOUR, (0,), (1,)), True)
        self.assertIs(meets(FOUR, (0,), (2,)), False)
        self.assertIs(meets(FOUR, (0, 1), (2,)), False)
        self.assertIs(meets(FOUR, (0, 3), (1, 3)), True)
        self.assertIs(meets(FOUR, (0, 3), (2, 3)), False)
        self.assertIs(meets(FOUR, (0, 2), (1, 2)), True)
        self.assertIs(meets(FOUR, (2,), (3,)), True)

    def test_common_keys_that_fill_a_part_are_not_enough(self):
        marking = Marking(3, ((0,), (1, 2), (1,)))
        self.assertIs(meets(marking, (0, 1), (0, 2)), False)
        self.assertIs(meets(marking, (0, 1), (0, 1, 2)), True)

    def test_equal_marks_without_a_common_key_do_not_meet(self):
        self.assertIs(meets(Marking(1, ((0,),) * 7), (0,), (6,)), False)

    def test_all_pairs(self):
        told = []
        for marking, one, other in pairs():
            common = self.expected_cells(marking, set(one) & set(other))
            told.append(meets(marking, one, other))
            self.assertIs(told[-1], self.expected_met(marking, one, other) == common)
        self.assertGreater(told.count(True), 100)
        self.assertGreater(told.count(False), 100)

    def test_equal_keys_no_keys_and_all_items(self):
        for marking in MARKINGS:
            every = tuple(range(len(marking)))
            for keys in tuples_below(len(marking)):
                for other in ((), keys, every):
                    self.assertIs(meets(marking, keys, other), True)
                    self.assertIs(meets(marking, other, keys), True)

    def test_marks_without_a_common_cell_always_meet(self):
        every = tuples_below(7)
        for one, other in product(every[::3], every):
            self.assertIs(meets(MARKINGS[7], one, other), True)


class MetWrongTest(JoiningCase):
    def test_examples(self):
        self.assertEqual(met_wrong(FOUR, (0,), (1,)), ())
        self.assertEqual(met_wrong(FOUR, (0, 2), (1, 2)), (0, 1))
        self.assertEqual(met_wrong(FOUR, (0, 1, 3), (0, 1)), (2,))
        self.assertEqual(met_wrong(FOUR, (0, 3), (1, 3)), ())
        self.assertEqual(met_wrong(FOUR, (2, 3), (2, 3)), (0, 1))

    def test_an_item_of_just_one_of_them_is_told(self):
        self.assertEqual(met_wrong(FOUR, (0,), (2,)), (0,))
        self.assertEqual(met_wrong(FOUR, (2,), (0,)), (0,))
        self.assertEqual(met_wrong(FOUR, (0, 1), (2,)), (0, 1, 2))
        self.assertEqual(met_wrong(Marking(1, ((0,),) * 3), (0, 1), (1, 2)), (0, 2))

    def test_all_pairs(self):
        for marking, one, other in pairs():
            told = met_wrong(marking, one, other)
            self.plain(told)
            yes = self.expected_yes(marking, self.expected_met(marking, one, other))
            self.assertEqual(set(told), set(yes) - (set(one) & set(other)))

    def test_common_keys_are_said_yes(self):
        for marking, one, other in pairs():
            yes = says(marking, met(marking, one, other))
            self.assertLessEqual(set(one) & set(other), set(yes))

    def test_no_keys_say_nothing_wrongly(self):
        for marking in MARKINGS:
            for keys in tuples_below(len(marking)):
                self.assertEqual(met_wrong(marking, (), keys), ())
                self.assertEqual(met_wrong(marking, keys, ()), ())

    def test_all_items_with_all_items(self):
        for marking in MARKINGS:
            every = tuple(range(len(marking)))
            self.assertEqual(met_wrong(marking, every, every), ())


class KeysTest(JoiningCase):
    def test_no_keys_in_the_first_place(self):
        for marking in (FOUR, MARKINGS[0], MARKINGS[6]):
            for value in not_ascending_below(len(marking)):
                for call in CALLS:
                    self.refused(InvalidKeys, value, call, marking, value, ())
                    self.refused(InvalidKeys, value, call, marking, value, (0,))

    def test_no_keys_in_the_second_place(self):
        for marking in (FOUR, MARKINGS[0], MARKINGS[6]):
            for value in not_ascending_below(len(marking)):
                for call in CALLS:
                    self.refused(InvalidKeys, value, call, marking, (), value)
                    self.refused(InvalidKeys, value, call, marking, (0,), value)

    def test_both_wrong_tells_of_the_first(self):
        values = [(4,), (1, 0), (0, 0), (-1,), (True,), [0], None, "01", ((0,),), 0, {0}]
        for call in CALLS:
            for one, other in product(values, values):
                self.refused(InvalidKeys, one, call, FOUR, one, other)

    def test_refused_lists_are_not_changed(self):
        for call in CALLS:
            one, other = [1, 0, [2]], [3, [1]]
            self.refused(InvalidKeys, one, call, FOUR, one, other)
            self.refused(InvalidKeys, other, call, FOUR, (0,), other)
            self.assertEqual((one, other), ([1, 0, [2]], [3, [1]]))

    def test_keys_are_items_not_cells(self):
        keys = (1,)
        for call in CALLS:
            self.refused(InvalidKeys, keys, call, Marking(8, ((0, 7),)), (), keys)
            self.refused(InvalidKeys, keys, call, Marking(8, ((0, 7),)), keys, ())

    def test_by_name(self):
        self.assertEqual(met(other=(2,), one=(0, 3), marking=FOUR), (0,))
        self.assertIs(meets(other=(2,), one=(0, 3), marking=FOUR), False)
        self.assertEqual(met_wrong(other=(2,), one=(0, 3), marking=FOUR), (0,))
        for call in CALLS:
            keys = (9,)
            with self.assertRaises(InvalidKeys) as caught:
                call(other=(8,), marking=FOUR, one=keys)
            self.assertIs(caught.exception.value, keys)

    def test_tuple_of_its_own_class(self):
        self.plain(met(FOUR, Plain((0, 1)), Plain((1, 2))))
        self.assertIs(meets(FOUR, Plain((0, 1)), Plain((0, 1))), True)
        self.plain(met_wrong(FOUR, Plain((0, 1)), Plain((1, 2))))

    def test_arguments_are_not_changed(self):
        for marking in MARKINGS:
            cells, marks = marking.cells, marking.marks
            keys = tuple(range(len(marking)))
            for call in CALLS:
                call(marking, keys, keys[1:])
            self.assertEqual((marking.cells, marking.marks), (cells, marks))
            self.assertEqual(keys, tuple(range(len(marks))))


class FoldedTest(JoiningCase):
    def even(self):
        """The samples with an even number of cells, and more of these."""
        more = [
            Marking(2, ((0,), (1,))), Marking(4, ((0, 2), (1, 2), (3,))),
            Marking(6, ((0, 3), (1, 5), (2, 3, 4), (0, 1, 2, 3, 4, 5), (5,))),
            Marking(8, ((0, 4), (3, 7), (3, 4, 7), (1, 2, 4, 6), tuple(range(8)))),
        ]
        return [marking for marking in MARKINGS if marking.cells % 2 == 0] + more

    def test_examples(self):
        self.assertEqual(folded(FOUR), Marking(2, ((0,), (1,), (0, 1), (0, 1))))
        self.assertEqual(folded(Marking(2, ((1,), (0,)))), Marking(1, ((0,), (0,))))
        marking = Marking(8, ((4, 7), (1, 6), (3,), (3, 4)))
        self.assertEqual(folded(marking), Marking(4, ((0, 3), (1, 2), (3,), (0, 3))))

    def test_two_cells_of_a_mark_that_become_one(self):
        self.assertEqual(folded(Marking(2, ((0, 1),))), Marking(1, ((0,),)))
        self.assertEqual(folded(Marking(6, ((1, 4), (0, 2, 3, 5)))), Marking(3, ((1,), (0, 2))))
        self.assertEqual(folded(Marking(8, (tuple(range(8)),))), Marking(4, ((0, 1, 2, 3),)))

    def test_cells_ascend_where_they_change_their_order(self):
        self.assertEqual(folded(Marking(8, ((1, 4), (2, 3, 5)))), Marking(4, ((0, 1), (1, 2, 3))))

    def test_odd_numbers_of_cells(self):
        for cells in (1, 3, 5, 7):
            marks = ((0,), tuple(range(cells)))
            marking = Marking(cells, marks)
            with self.assertRaises(Undefined) as caught:
                folded(marking)
            self.assertIs(type(caught.exception), Undefined)
            self.assertEqual(caught.exception.what, "odd")
            self.assertIs(type(caught.exception.what), str)
            self.assertEqual((marking.cells, marking.marks), (cells, marks))

    def test_even_numbers_of_cells(self):
        for cells in (2, 4, 6, 8):
            marks = ((0,), (cells - 1,), tuple(range(cells)))
            half = cells // 2
            told = folded(Marking(cells, marks))
            self.assertEqual((told.cells, told.marks), (half, ((0,), (half - 1,), tuple(range(half)))))

    def test_eight_cells_are_folded_three_times(self):
        marking = Marking(8, ((0,), (7,), (2, 5)))
        twice = folded(folded(marking))
        self.assertEqual(twice, Marking(2, ((0,), (1,), (0, 1))))
        self.assertRaises(Undefined, folded, folded(twice))

    def test_it_is_a_plain_marking_and_the_whole_one_stays(self):
        for marking in self.even():
            cells, marks = marking.cells, marking.marks
            told = folded(marking)
            self.assertIs(type(told), Marking)
            self.assertIs(type(told.cells), int)
            self.assertIs(type(told.marks), tuple)
            self.assertEqual(len(told), len(marking))
            for mark in told.marks:
                self.plain(mark)
            self.assertEqual((marking.cells, marking.marks), (cells, marks))
            self.assertEqual(told, folded(marking))

    def test_keys_fill_just_what_their_cells_become(self):
        for marking in self.even():
            half = marking.cells // 2
            for keys in tuples_below(len(marking)):
                become = {cell % half for cell in filled(marking, keys)}
                self.assertEqual(filled(folded(marking), keys), tuple(sorted(become)))

    def test_each_yes_stays(self):
        for marking in self.even():
            small = folded(marking)
            for keys in tuples_below(len(marking)):
                yes = says(marking, filled(marking, keys))
                self.assertLessEqual(set(yes), set(says(small, filled(small, keys))))
            for bits in tuples_below(marking.cells):
                become = tuple(sorted({cell % small.cells for cell in bits}))
                self.assertLessEqual(set(says(marking, bits)), set(says(small, become)))

    def test_by_name(self):
        self.assertEqual(folded(marking=Marking(2, ((1,),))), Marking(1, ((0,),)))


if __name__ == "__main__":
    unittest.main()

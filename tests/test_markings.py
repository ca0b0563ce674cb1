import unittest

from samples import MARKINGS, NOT_INTEGERS, NOT_TUPLES, Plain, not_ascending_below
from markfilters.errors import FilterError, InvalidMarks, InvalidNumber
from markfilters.markings import Marking


class MarkingTest(unittest.TestCase):
    def refused(self, kind, value, cells, marks):
        with self.assertRaises(FilterError) as caught:
            Marking(cells, marks)
        self.assertIs(type(caught.exception), kind)
        self.assertIs(caught.exception.value, value)

    def refused_cells(self, cells, marks=((0,),)):
        with self.subTest(cells=cells, marks=marks):
            self.refused(InvalidNumber, cells, cells, marks)

    def refused_marks(self, cells, marks):
        with self.subTest(cells=cells, marks=marks):
            self.refused(InvalidMarks, marks, cells, marks)

    def test_attributes_are_kept(self):
        marking = Marking(4, ((0, 3), (1,), (0, 1, 2, 3)))
        self.assertEqual(marking.cells, 4)
        self.assertEqual(marking.marks, ((0, 3), (1,), (0, 1, 2, 3)))

    def test_arguments_by_name(self):
        marking = Marking(marks=((1,), (0,)), cells=2)
        self.assertEqual((marking.cells, marking.marks), (2, ((1,), (0,))))

    def test_every_number_of_cells(self):
        for cells in range(1, 9):
            marks = ((0,), tuple(range(cells)), (cells - 1,))
            marking = Marking(cells, marks)
            self.assertEqual((marking.cells, marking.marks), (cells, marks))

    def test_every_number_of_marks(self):
        for many in range(1, 8):
            marks = ((0, 2),) * many
            marking = Marking(3, marks)
            self.assertEqual(marking.marks, marks)
            self.assertEqual(len(marking), many)

    def test_marks_in_any_order_and_equal_marks_may_stand(self):
        for marks in [((1,), (0,)), ((0, 1), (0,)), ((1,), (1,)), ((0,), (1,), (0,))]:
            self.assertEqual(Marking(2, marks).marks, marks)

    def test_attributes_are_plain(self):
        for marks in [((0,), (0, 1)), Plain((Plain((0,)), Plain((0, 1))))]:
            marking = Marking(2, marks)
            self.assertIs(type(marking.cells), int)
            self.assertIs(type(marking.marks), tuple)
            for mark in marking.marks:
                self.assertIs(type(mark), tuple)
                for cell in mark:
                    self.assertIs(type(cell), int)
            self.assertEqual(marking.marks, ((0,), (0, 1)))

    def test_cells_out_of_bounds(self):
        for cells in [0, 9, -1, -8, 10, 100, 999999999999, -999999999999]:
            self.refused_cells(cells)

    def test_cells_of_another_kind(self):
        for cells in NOT_INTEGERS:
            self.refused_cells(cells)

    def test_number_of_marks_out_of_bounds(self):
        self.refused_marks(3, ())
        for many in (8, 9, 100):
            self.refused_marks(3, ((0, 2),) * many)

    def test_marks_of_another_kind(self):
        for marks in NOT_TUPLES:
            self.refused_marks(2, marks)

    def test_lists_are_no_marks(self):
        for marks in [[(0,)], [(0,), (1,)], ([0],), ((0,), [1]), ((0,), [])]:
            self.refused_marks(2, marks)

    def test_marks_are_nested_just_once(self):
        for marks in [(0,), (0, 1), (((0,),),), ((0,), ((1,),)), ((0,), 1)]:
            self.refused_marks(2, marks)

    def test_an_empty_mark(self):
        for marks in [((),), ((0,), ()), ((), (0,)), ((0,), (), (1,))]:
            self.refused_marks(2, marks)

    def test_each_mark_must_be_right(self):
        for wrong in not_ascending_below(3):
            for marks in [(wrong,), (wrong, (0,)), ((0,), wrong), ((0,), (1, 2), wrong, (2,))]:
                self.refused_marks(3, marks)

    def test_each_mark_must_be_right_in_the_greatest_marking(self):
        for wrong in not_ascending_below(8):
            self.refused_marks(8, ((7,),) * 6 + (wrong,))

    def test_a_cell_is_below_the_number_of_cells(self):
        for cells in range(1, 9):
            self.refused_marks(cells, ((cells,),))
            self.refused_marks(cells, (tuple(range(cells)), (0, cells)))

    def test_a_mark_of_a_single_cell_twice_with_one_cell(self):
        self.refused_marks(1, ((0, 0),))

    def test_both_wrong_tells_of_cells(self):
        for cells in [0, 9, True, None, "2", (2,), [2]]:
            for marks in [(), None, ((),), [(0,)], ((9,),), ((1, 0),), "", True]:
                self.refused_cells(cells, marks)

    def test_a_refused_list_is_not_changed(self):
        marks = [[0], [1]]
        self.refused_marks(2, marks)
        self.assertEqual(marks, [[0], [1]])

    def test_equal(self):
        for marking in MARKINGS:
            twin = Marking(marking.cells, tuple(list(marking.marks)))
            self.assertTrue(marking == twin)
            self.assertTrue(twin == marking)
            self.assertFalse(marking != twin)
            self.assertTrue(marking == marking)

    def test_not_equal_if_one_place_differs(self):
        marking = Marking(4, ((0, 1), (2,)))
        others = [
            Marking(3, ((0, 1), (2,))), Marking(5, ((0, 1), (2,))), Marking(4, ((0, 2), (2,))),
            Marking(4, ((0, 1), (3,))), Marking(4, ((0, 1),)), Marking(4, ((2,),)),
            Marking(4, ((0, 1), (2,), (2,))), Marking(4, ((2,), (0, 1))), Marking(4, ((0,), (2,))),
            Marking(4, ((0, 1, 2), (2,))),
        ]
        for other in others:
            self.assertFalse(marking == other)
            self.assertFalse(other == marking)
            self.assertTrue(marking != other)

    def test_all_samples_are_unlike(self):
        for at, one in enumerate(MARKINGS):
            for place, other in enumerate(MARKINGS):
                self.assertIs(one == other, at == place)

    def test_not_equal_to_another_kind(self):
        class Lookalike:
            cells = 2
            marks = ((0,), (1,))

        class Agrees:
            def __eq__(self, other):
                return True

        marking = Marking(2, ((0,), (1,)))
        others = [
            (2, ((0,), (1,))), [2, ((0,), (1,))], ((0,), (1,)), 2, True, None, "", (), Lookalike(),
            Marking, InvalidNumber(2),
        ]
        for other in others:
            self.assertIs(marking == other, False)
            self.assertIs(marking != other, True)
        self.assertIs(marking == Agrees(), False)

    def test_not_iterable(self):
        for marking in MARKINGS:
            self.assertRaises(TypeError, iter, marking)
            self.assertRaises(TypeError, list, marking)
            with self.assertRaises(TypeError):
                0 in marking

    def test_objects_do_not_share(self):
        one = Marking(2, ((0,),))
        Marking(3, ((1, 2), (0,)))
        self.assertEqual((one.cells, one.marks, len(one)), (2, ((0,),), 1))


if __name__ == "__main__":
    unittest.main()

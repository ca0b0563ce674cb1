import random
import unittest
from fractions import Fraction
from itertools import combinations, product
from math import comb, gcd

from cases import Case
from changes import ascends_below, changes, deep
from samples import FOUR, MARKINGS, NOT_INTEGERS, NOT_TUPLES, Plain, not_ascending_below, tuples_below
from markfilters.errors import InvalidMarks, InvalidNumber
from markfilters.filling import wrong
from markfilters.free import free_marks, free_share, is_free, most_free, worst
from markfilters.markings import Marking

WRONG_CELLS = [0, 9, -1, 10, 100, 999999999999, -999999999999] + NOT_INTEGERS
MOST = {1: 1, 2: 2, 3: 3, 4: 6, 5: 10, 6: 20, 7: 35, 8: 70}


def drawn_markings():
    draw = random.Random(13)
    for many, cells in product(range(1, 8), [2, 4, 5, 6, 8, 8]):
        marks = [sorted(draw.sample(range(cells), draw.randint(1, min(3, cells)))) for _ in range(many)]
        yield Marking(cells, tuple(map(tuple, marks)))


FREE = [Marking(8, tuple((cell,) for cell in range(many))) for many in range(1, 8)]
# The last item's mark lies within the cells of two others, but of no single one.
PAIRS = Marking(4, ((0, 1), (2, 3), (0, 2), (1, 3), (0, 3)))
ALL_MARKINGS = MARKINGS + FREE + [PAIRS] + list(drawn_markings())


def wrong_sizes(marking):
    many = len(marking.marks)
    return [-1, -many, many + 1, 8, 100, 999999999999, -999999999999] + NOT_INTEGERS


class FreeCase(Case):
    def wrongs(self, marking, size):
        """How many wrong yeses each keys of this size say, the keys ascending."""
        told = []
        for keys in combinations(range(len(marking.marks)), size):
            yes = self.expected_yes(marking, self.expected_cells(marking, keys))
            told.append((keys, len(set(yes) - set(keys))))
        return told


class IsFreeTest(FreeCase):
    def test_examples(self):
        self.assertIs(is_free(FOUR, 0), True)
        self.assertIs(is_free(FOUR, 1), False)
        self.assertIs(is_free(FOUR, 4), True)
        self.assertEqual([is_free(PAIRS, size) for size in range(6)], [True, True, False, False, False, True])

    def test_all_sizes_against_all_keys(self):
        told = set()
        for marking in ALL_MARKINGS:
            for size in range(len(marking.marks) + 1):
                expected = all(many == 0 for _, many in self.wrongs(marking, size))
                self.assertIs(is_free(marking, size), expected)
                told.add((expected, size))
        self.assertLessEqual(set(product([True, False], range(1, 7))), told)

    def test_one_that_says_no_wrong_yes_for_others(self):
        # Just the keys (5, 6), the last of two, say a wrong yes.
        marking = Marking(8, ((0, 1), (2,), (3,), (4,), (5,), (0, 6), (1, 7)))
        self.assertEqual([is_free(marking, size) for size in (0, 1, 2, 3)], [True, True, False, False])
        # Just the key 0 does, for the last item.
        marking = Marking(8, ((0, 1), (2,), (3,), (4,), (5,), (6,), (1,)))
        self.assertIs(is_free(marking, 1), False)

    def test_no_keys_and_all_keys(self):
        for marking in ALL_MARKINGS:
            self.assertIs(is_free(marking, 0), True)
            self.assertIs(is_free(marking, len(marking)), True)

    def test_free_for_each_smaller_size(self):
        for marking in ALL_MARKINGS:
            told = [is_free(marking, size) for size in range(len(marking))]
            self.assertEqual(told, sorted(told, reverse=True))

    def test_by_name(self):
        self.assertIs(is_free(size=1, marking=FOUR), False)


class WorstTest(FreeCase):
    def test_examples(self):
        self.assertEqual(worst(FOUR, 0), (0, ()))
        self.assertEqual(worst(FOUR, 1), (2, (2,)))
        self.assertEqual(worst(FOUR, 2), (2, (2, 3)))
        self.assertEqual(worst(FOUR, 4), (0, (0, 1, 2, 3)))
        self.assertEqual(worst(Marking(1, ((0,),) * 7), 3), (4, (0, 1, 2)))

    def test_all_sizes_against_all_keys(self):
        several = 0
        for marking in ALL_MARKINGS:
            for size in range(len(marking.marks) + 1):
                told = worst(marking, size)
                self.assertIs(type(told), tuple)
                self.assertEqual(len(told), 2)
                self.assertIs(type(told[0]), int)
                self.plain(told[1])
                wrongs = self.wrongs(marking, size)
                most = max(many for _, many in wrongs)
                having = [keys for keys, many in wrongs if many == most]
                self.assertEqual(told, (most, having[0]))
                several += len(having) > 1 and having[0] != wrongs[0][0]
        self.assertGreater(several, 3)

    def test_the_first_of_several(self):
        marking = Marking(5, ((4,), (0, 1), (0,), (2, 3), (2,)))
        self.assertEqual(worst(marking, 1), (1, (1,)))
        self.assertEqual(worst(marking, 2), (2, (1, 3)))

    def test_as_wrong_tells(self):
        for marking in ALL_MARKINGS:
            for size in range(len(marking) + 1):
                many, keys = worst(marking, size)
                self.assertEqual(len(wrong(marking, keys)), many)
                self.assertIs(many == 0, is_free(marking, size))

    def test_by_name(self):
        self.assertEqual(worst(size=1, marking=FOUR), (2, (2,)))


class SizesTest(FreeCase):
    def test_no_sizes(self):
        for call in (is_free, worst):
            for marking in MARKINGS:
                for size in wrong_sizes(marking):
                    self.refused(InvalidNumber, size, call, marking, size)

    def test_a_size_is_up_to_the_items_not_the_cells(self):
        for call in (is_free, worst):
            self.refused(InvalidNumber, 2, call, Marking(8, ((0,),)), 2)
            call(Marking(1, ((0,),) * 7), 7)


class MostFreeTest(Case):
    def test_all(self):
        for cells, most in MOST.items():
            told = most_free(cells)
            self.assertIs(type(told), int)
            self.assertEqual(told, most)

    def test_no_more_marks_lie_apart(self):
        for cells in range(1, 5):
            marks = tuples_below(cells)[1:]
            most = 0
            for bits in range(2 ** len(marks)):
                some = [set(mark) for at, mark in enumerate(marks) if bits >> at & 1]
                if len(some) > most and not any(one < other for one in some for other in some):
                    most = len(some)
            self.assertEqual(most_free(cells), most)

    def test_wrong_cells(self):
        for cells in WRONG_CELLS:
            with self.subTest(cells=cells):
                self.refused_with(InvalidNumber, cells, most_free, cells)

    def test_by_name(self):
        self.assertEqual(most_free(cells=3), 3)


class FreeMarksTest(Case):
    def test_examples(self):
        self.assertEqual(free_marks(1, 1), ((0,),))
        self.assertEqual(free_marks(2, 2), ((0,), (1,)))
        self.assertEqual(free_marks(3, 3), ((0, 1), (0, 2), (1, 2)))
        self.assertEqual(free_marks(3, 1), ((0, 1),))
        self.assertEqual(free_marks(4, 4), ((0, 1), (0, 2), (0, 3), (1, 2)))
        self.assertEqual(free_marks(5, 2), ((0, 1, 2), (0, 1, 3)))
        self.assertEqual(free_marks(8, 70)[-1], (4, 5, 6, 7))

    def test_all(self):
        for cells, most in MOST.items():
            half = -(-cells // 2)
            every = [mark for mark in tuples_below(cells) if len(mark) == half]
            for many in range(1, most + 1):
                told = free_marks(cells, many)
                self.assertIs(type(told), tuple)
                for mark in told:
                    self.plain(mark)
                self.assertEqual(list(told), sorted(every)[:many])

    def test_up_to_7_are_free_for_single_keys(self):
        for cells, most in MOST.items():
            for many in range(1, min(most, 7) + 1):
                self.assertIs(is_free(Marking(cells, free_marks(cells, many)), 1), True)

    def test_wrong_cells(self):
        for cells in WRONG_CELLS:
            for many in [1, 0, None, [1]]:
                with self.subTest(cells=cells, many=many):
                    self.refused_with(InvalidNumber, cells, free_marks, cells, many)

    def test_wrong_many(self):
        for cells, most in MOST.items():
            for many in [0, -1, most + 1, most + 2, 999999999999, -999999999999] + NOT_INTEGERS:
                with self.subTest(cells=cells, many=many):
                    self.refused_with(InvalidNumber, many, free_marks, cells, many)

    def test_by_name(self):
        self.assertEqual(free_marks(many=1, cells=3), ((0, 1),))


def expected_apart(cells, value):
    """Whether value is a tuple of marks none of which lies within another one."""
    if not isinstance(value, tuple) or not all(ascends_below(mark, cells) and mark != () for mark in value):
        return False
    return not any(set(one) <= set(other) for at, one in enumerate(value) for to, other in enumerate(value) if at != to)


def drawn_marks():
    """Numbers of cells, and marks none within another one, in any order."""
    draw = random.Random(14)
    for _ in range(120):
        cells = draw.randint(1, 8)
        marks = []
        for _ in range(draw.choice([2, 4, 8, 40, 120])):
            mark = tuple(sorted(draw.sample(range(cells), draw.randint(1, cells))))
            if expected_apart(cells, tuple(marks) + (mark,)):
                marks.append(mark)
        yield cells, tuple(marks)


DRAWN = list(drawn_marks())


class FreeShareTest(Case):
    def ratio(self, told):
        self.plain_integers(told)
        self.assertEqual(len(told), 2)
        self.assertGreaterEqual(told[0], 0)
        self.assertGreater(told[1], 0)
        self.assertEqual(gcd(*told), 1)
        return Fraction(*told)

    def refused_marks(self, cells, marks):
        with self.subTest(cells=cells, marks=marks):
            self.refused_with(InvalidMarks, marks, free_share, cells, marks)

    def test_examples(self):
        self.assertEqual(free_share(3, ((0,),)), (1, 3))
        self.assertEqual(free_share(3, ((1, 2),)), (1, 3))
        self.assertEqual(free_share(3, ((0,), (1, 2))), (2, 3))
        self.assertEqual(free_share(4, ((0,), (1, 2))), (5, 12))
        self.assertEqual(free_share(8, ((0, 1, 2, 3, 4, 5, 6, 7),)), (1, 1))
        self.assertEqual(free_share(8, ((7,), (0, 1, 2))), (1, 7))

    def test_no_marks(self):
        for cells in MOST:
            self.assertEqual(free_share(cells, ()), (0, 1))
            self.ratio(free_share(cells, ()))

    def test_all_free_marks(self):
        for cells, most in MOST.items():
            self.assertEqual(free_share(cells, free_marks(cells, most)), (1, 1))
            for many in range(1, most + 1):
                self.assertEqual(self.ratio(free_share(cells, free_marks(cells, many))), Fraction(many, most))

    def test_all_marks_of_each_size(self):
        for cells in MOST:
            for size in range(1, cells + 1):
                marks = tuple(combinations(range(cells), size))
                self.assertEqual(free_share(cells, marks), (1, 1))
                self.assertEqual(free_share(cells, marks[::-1]), (1, 1))

    def test_drawn_marks(self):
        for cells, marks in DRAWN:
            told = self.ratio(free_share(cells, marks))
            self.assertEqual(told, sum(Fraction(1, comb(cells, len(mark))) for mark in marks))
            self.assertLessEqual(told, 1)
        self.assertGreater(max(len(marks) for _, marks in DRAWN), 12)

    def test_one_within_another_one(self):
        for marks in [((0,), (0, 1)), ((0, 1), (0,)), ((2,), (0, 1), (1, 2)), ((0, 1, 2), (3,), (0, 2))]:
            self.refused_marks(4, marks)

    def test_drawn_marks_with_one_more_that_is_not_apart(self):
        for cells, marks in DRAWN:
            for mark in marks[:3]:
                self.refused_marks(cells, marks + (mark,))
                self.refused_marks(cells, (mark,) + marks)
                self.refused_marks(cells, ((mark[0],),) + marks)
                if len(mark) < cells:
                    more = next(cell for cell in range(cells) if cell not in mark)
                    wider = tuple(sorted(mark + (more,)))
                    self.refused_marks(cells, marks + (wider,))
                    self.refused_marks(cells, (wider,) + marks)
                if len(mark) > 1:
                    self.refused_marks(cells, marks + (mark[1:],))
                    self.refused_marks(cells, (mark[:-1],) + marks)

    def test_twice(self):
        for marks in [((0,), (0,)), ((0,), (1,), (0,)), ((0, 1), (0, 1))]:
            self.refused_marks(2, marks)

    def test_an_empty_mark(self):
        for marks in [((),), ((), (0,)), ((0,), ())]:
            self.refused_marks(2, marks)

    def test_wrong_marks(self):
        for wrong_mark in not_ascending_below(3):
            for marks in [(wrong_mark,), ((0,), wrong_mark), (wrong_mark, (2,)), ((0, 1), (1, 2), wrong_mark)]:
                self.refused_marks(3, marks)

    def test_a_cell_is_below_the_cells(self):
        for cells in MOST:
            self.refused_marks(cells, ((cells,),))
            self.assertEqual(free_share(cells, ((cells - 1,),)), (1, cells))

    def test_other_kinds(self):
        for cells in MOST:
            for marks in NOT_TUPLES + [[(0,)], (0,), (None,), deep(60), (FOUR,), ((0,),) * 15000, ((),) * 30000]:
                self.refused_marks(cells, marks)
        self.refused_marks(8, tuple((at,) for at in range(15000)))

    def test_changed_at_one_place(self):
        for marks in [((0,),), ((1, 2), (0, 2)), ((0, 3), (0, 1, 2), (2, 3))]:
            for value in changes(marks):
                if expected_apart(4, value):
                    free_share(4, value)
                else:
                    self.refused_marks(4, value)

    def test_wrong_cells(self):
        for cells in WRONG_CELLS:
            for marks in [(), ((0,),), ((0,), (0,)), [(0,)], None, ((),)]:
                with self.subTest(cells=cells, marks=marks):
                    self.refused_with(InvalidNumber, cells, free_share, cells, marks)

    def test_by_name(self):
        self.assertEqual(free_share(marks=((0,),), cells=3), (1, 3))

    def test_tuples_of_their_own_class(self):
        self.assertEqual(self.ratio(free_share(3, Plain((Plain((0,)),)))), Fraction(1, 3))


class BasicsTest(Case):
    def test_equal_arguments_tell_equal_results(self):
        for marking in ALL_MARKINGS:
            for size in range(len(marking) + 1):
                twin = Marking(marking.cells, marking.marks)
                self.assertEqual(worst(marking, size), worst(twin, size))
        for cells, marks in DRAWN:
            self.assertEqual(free_share(cells, marks), free_share(cells, tuple(list(marks))))

    def test_arguments_are_not_changed(self):
        for marking in MARKINGS:
            cells, marks = marking.cells, marking.marks
            is_free(marking, 1), worst(marking, 1)
            self.assertEqual((marking.cells, marking.marks), (cells, marks))

    def test_refused_lists_are_not_changed(self):
        value = [(0,), [1]]
        self.refused_with(InvalidMarks, value, free_share, 3, value)
        self.refused_with(InvalidNumber, value, free_share, value, ())
        self.refused_with(InvalidNumber, value, free_marks, 3, value)
        self.refused_with(InvalidNumber, value, most_free, value)
        self.assertEqual(value, [(0,), [1]])


if __name__ == "__main__":
    unittest.main()

import random
import unittest
from itertools import combinations, product

from cases import Case
from changes import ascends, ascends_below, changes, deep
from samples import FOUR, MARKINGS, NOT_INTEGERS, NOT_TUPLES, Plain, tuples_below
from markfilters.errors import InvalidNumber, InvalidTelling
from markfilters.filling import filled, says
from markfilters.markings import Marking
from markfilters.tellings import avoiding, is_telling, marking_for, needed, yeses

# None of them is a number of items that a telling can have.
WRONG_MANY = [0, 5, -1, 6, 100, 999999999999, -999999999999] + NOT_INTEGERS

NO_TELLINGS = NOT_TUPLES + [(), ((),), (0,), ((0,),), ((), [0]), ((0,), ()), ((), (False,)), ("",)]


def drawn_markings():
    """Markings of 1 to 7 items, with marks drawn from few cells and from many."""
    draw = random.Random(11)
    for many, cells in product(range(1, 8), [1, 2, 3, 5, 8]):
        marks = [sorted(draw.sample(range(cells), draw.randint(1, cells))) for _ in range(many)]
        yield Marking(cells, tuple(map(tuple, marks)))


ALL_MARKINGS = MARKINGS + list(drawn_markings())


def small_markings():
    """All markings of up to 3 items in up to 3 cells, and drawn ones of 4 items."""
    for many, cells in product(range(1, 4), range(1, 4)):
        for marks in product(tuples_below(cells)[1:], repeat=many):
            yield Marking(cells, marks)
    yield from [marking for marking in ALL_MARKINGS if len(marking.marks) <= 4]


def expected_telling(many, value):
    """Whether value is a telling, as the document tells it, by all pairs of members."""
    if not isinstance(value, tuple) or not all(ascends_below(member, many) for member in value):
        return False
    if not ascends(value) or not {(), tuple(range(many))} <= set(value):
        return False
    kept = [set(member) for member in value]
    return all(one & other in kept for one in kept for other in kept)


def all_tellings(many):
    """All tellings of so many items."""
    inner = [member for member in tuples_below(many) if 0 < len(member) < many]
    ends = {(), tuple(range(many))}
    for size in range(len(inner) + 1):
        for some in combinations(inner, size):
            telling = tuple(sorted(ends | set(some)))
            if expected_telling(many, telling):
                yield telling


TELLINGS = [(many, telling) for many in range(1, 4) for telling in all_tellings(many)]


def drawn_tellings():
    """Tellings of 4 items: the common items of drawn sets, and the one with all sets."""
    draw = random.Random(12)
    yield 4, tuple(sorted(tuples_below(4)))
    yield 4, ((), (0, 1, 2, 3))
    for _ in range(150):
        kept = {frozenset(), frozenset(range(4))}
        for _ in range(draw.randint(1, 7)):
            more = frozenset(draw.sample(range(4), draw.randint(1, 3)))
            kept |= {more & other for other in kept}
        yield 4, tuple(sorted(tuple(sorted(member)) for member in kept))


TELLINGS += list(drawn_tellings())


class YesesTest(Case):
    def test_examples(self):
        told = ((), (0,), (0, 1, 2), (0, 1, 2, 3), (0, 3), (1,), (1, 3), (3,))
        self.assertEqual(yeses(FOUR), told)
        self.assertEqual(yeses(Marking(1, ((0,),))), ((), (0,)))
        self.assertEqual(yeses(Marking(1, ((0,),) * 7)), ((), (0, 1, 2, 3, 4, 5, 6)))
        self.assertEqual(yeses(Marking(2, ((0, 1), (0,)))), ((), (0, 1), (1,)))

    def test_against_all_keys(self):
        for marking in ALL_MARKINGS:
            many = len(marking.marks)
            told = yeses(marking)
            self.assertIs(type(told), tuple)
            for member in told:
                self.plain(member)
            every = set()
            for keys in tuples_below(many):
                every.add(tuple(self.expected_yes(marking, self.expected_cells(marking, keys))))
            self.assertEqual(told, tuple(sorted(every)))

    def test_as_says_and_filled_tell(self):
        for marking in ALL_MARKINGS[::3]:
            every = {says(marking, filled(marking, keys)) for keys in tuples_below(len(marking))}
            self.assertEqual(yeses(marking), tuple(sorted(every)))

    def test_cells_that_no_mark_has_change_nothing(self):
        for marking in MARKINGS:
            if marking.cells < 8:
                self.assertEqual(yeses(Marking(8, marking.marks)), yeses(marking))

    def test_by_name(self):
        self.assertEqual(yeses(marking=Marking(1, ((0,),))), ((), (0,)))


class AvoidingTest(Case):
    def test_examples(self):
        self.assertEqual([avoiding(FOUR, cell) for cell in range(4)], [(1, 3), (0, 3), (0, 1, 2), (0, 1, 2)])
        self.assertEqual(avoiding(Marking(2, ((0,), (0,))), 0), ())
        self.assertEqual(avoiding(Marking(2, ((0,), (0,))), 1), (0, 1))

    def test_all_cells(self):
        for marking in ALL_MARKINGS:
            for cell in range(marking.cells):
                told = avoiding(marking, cell)
                self.plain(told)
                expected = [item for item, mark in enumerate(marking.marks) if cell not in mark]
                self.assertEqual(list(told), expected)

    def test_yeses_are_the_common_items_of_some(self):
        for marking in ALL_MARKINGS:
            tuples = [set(avoiding(marking, cell)) for cell in range(marking.cells)]
            every = set(range(len(marking.marks)))
            commons = set()
            for some in tuples_below(marking.cells):
                commons.add(tuple(sorted(every.intersection(*[tuples[cell] for cell in some]))))
            self.assertLessEqual(set(yeses(marking)), commons)

    def test_no_cells(self):
        for marking in MARKINGS:
            for cell in [marking.cells, marking.cells + 1, -1, -marking.cells, 999999999999] + NOT_INTEGERS:
                self.refused(InvalidNumber, cell, avoiding, marking, cell)

    def test_a_cell_is_below_the_cells_not_the_items(self):
        self.assertEqual(avoiding(Marking(8, ((0,),)), 7), (0,))
        self.refused(InvalidNumber, 1, avoiding, Marking(1, ((0,),) * 7), 1)

    def test_by_name(self):
        self.assertEqual(avoiding(cell=0, marking=FOUR), (1, 3))


class IsTellingTest(Case):
    def told(self, many, value, expected):
        with self.subTest(many=many, value=value):
            self.assertIs(is_telling(many, value), expected)

    def test_examples(self):
        self.told(1, ((), (0,)), True)
        self.told(2, ((), (0,), (0, 1)), True)
        self.told(2, ((), (0,), (0, 1), (1,)), True)
        self.told(3, ((), (0, 1), (0, 1, 2), (1,), (1, 2)), True)
        self.told(3, ((), (0, 1), (0, 1, 2), (1, 2)), False)
        self.told(3, ((), (0,), (1,), (2,)), False)
        self.told(3, ((0, 1, 2),), False)
        self.told(4, ((), (0, 1, 2, 3)), True)

    def test_yeses_of_up_to_4_items(self):
        for marking in small_markings():
            many = len(marking.marks)
            self.told(many, yeses(marking), True)
            for other in range(1, 5):
                self.told(other, yeses(marking), other == many)

    def test_all_tuples_of_sets(self):
        for many in range(1, 4):
            for size in range(2 ** many + 1):
                for some in combinations(sorted(tuples_below(many)), size):
                    self.told(many, some, expected_telling(many, some))

    def test_many_tuples_of_sets_of_4(self):
        sets = sorted(tuples_below(4))
        told = set()
        for bits in range(2 ** 16):
            some = tuple(sets[at] for at in range(16) if bits >> at & 1)
            if is_telling(4, some):
                told.add(some)
        self.assertEqual(told, set(all_tellings(4)))
        self.assertEqual(len(told), 2271)

    def test_changed_at_one_place(self):
        for many, telling in TELLINGS[:60]:
            for value in changes(telling):
                self.told(many, value, expected_telling(many, value))

    def test_out_of_order_and_twice(self):
        for many, telling in TELLINGS[:120]:
            self.told(many, telling[::-1], False)
            self.told(many, telling + telling, False)
            self.told(many, telling + telling[-1:], False)
            self.told(many, telling[:1] + telling, False)

    def test_members_must_ascend(self):
        self.told(2, ((), (1, 0)), False)
        self.told(2, ((), (0, 0), (0, 1)), False)
        self.told(3, ((), (0, 1, 2), (1, 0)), False)

    def test_lists_and_bools(self):
        self.told(1, [(), (0,)], False)
        self.told(1, ([], (0,)), False)
        self.told(1, ((), [0]), False)
        self.told(1, ((), (False,)), False)
        self.told(2, ((), (0, True)), False)
        self.told(2, ((), (0,), (0, True)), False)
        self.told(2, ((), (0, 1), (True,)), False)

    def test_other_kinds(self):
        for many in range(1, 5):
            for value in NOT_TUPLES + NO_TELLINGS + [deep(60), FOUR, (FOUR,), (None,), ("", (0,)), (0, (0,))]:
                self.told(many, value, False)
            self.told(many, tuple((member,) for member in range(15000)), False)
            self.told(many, ((),) * 30000, False)

    def test_by_name(self):
        self.assertIs(is_telling(value=((), (0,)), many=1), True)
        self.assertIs(is_telling(value=((0,), ()), many=1), False)

    def test_a_list_is_not_changed(self):
        value = [(), [0]]
        self.assertIs(is_telling(1, value), False)
        self.assertEqual(value, [(), [0]])


class NeededTest(Case):
    def expected_needed(self, many, telling):
        every = set(range(many))
        told = []
        for member in telling:
            more = [set(other) for other in telling if set(member) < set(other)]
            if set(member) != every and every.intersection(*more) != set(member):
                told.append(member)
        return tuple(told)

    def test_examples(self):
        self.assertEqual(needed(1, ((), (0,))), ((),))
        self.assertEqual(needed(2, ((), (0, 1))), ((),))
        self.assertEqual(needed(2, ((), (0,), (0, 1))), ((), (0,)))
        self.assertEqual(needed(2, ((), (0,), (0, 1), (1,))), ((0,), (1,)))
        self.assertEqual(needed(4, yeses(FOUR)), ((0, 1, 2), (0, 3), (1, 3)))
        self.assertEqual(needed(4, tuple(sorted(tuples_below(4)))), ((0, 1, 2), (0, 1, 3), (0, 2, 3), (1, 2, 3)))

    def test_all_tellings(self):
        most = 0
        for many, telling in TELLINGS:
            told = needed(many, telling)
            self.assertIs(type(told), tuple)
            for member in told:
                self.plain(member)
            self.assertEqual(told, self.expected_needed(many, telling))
            most = max(most, len(told))
        self.assertGreater(most, 4)

    def test_the_tellings_that_need_most_need_7(self):
        self.assertEqual(max(len(needed(4, telling)) for telling in all_tellings(4)), 7)

    def test_by_name(self):
        self.assertEqual(needed(telling=((), (0,)), many=1), ((),))

    def test_tuples_of_their_own_class(self):
        told = needed(2, Plain((Plain(()), Plain((0,)), Plain((0, 1)))))
        self.assertEqual(told, ((), (0,)))
        self.assertIs(type(told), tuple)
        for member in told:
            self.plain(member)


class MarkingForTest(Case):
    def test_examples(self):
        marking = marking_for(4, yeses(FOUR))
        self.assertEqual((marking.cells, marking.marks), (3, ((2,), (1,), (1, 2), (0,))))
        marking = marking_for(2, ((), (0,), (0, 1)))
        self.assertEqual((marking.cells, marking.marks), (2, ((0,), (0, 1))))

    def test_a_telling_of_none_and_all(self):
        for many in range(1, 5):
            marking = marking_for(many, ((), tuple(range(many))))
            self.assertIs(type(marking), Marking)
            self.assertEqual(marking, Marking(1, ((0,),) * many))

    def test_has_a_cell_for_each_needed_member(self):
        for many, telling in TELLINGS:
            members = needed(many, telling)
            marking = marking_for(many, telling)
            self.assertIs(type(marking), Marking)
            self.assertEqual((marking.cells, len(marking)), (len(members), many))
            for cell, member in enumerate(members):
                self.assertEqual(avoiding(marking, cell), member)
            for mark in marking.marks:
                self.plain(mark)

    def test_its_yeses_are_the_telling(self):
        for many, telling in TELLINGS:
            self.assertEqual(yeses(marking_for(many, telling)), telling)

    def test_no_marking_with_fewer_cells_has_them(self):
        for many in range(1, 5):
            fewest = {}
            for cells in range(1, 4 if many < 4 else 3):
                for marks in product(tuples_below(cells)[1:], repeat=many):
                    fewest.setdefault(yeses(Marking(cells, marks)), cells)
            for telling, cells in fewest.items():
                self.assertEqual(marking_for(many, telling).cells, cells)

    def test_by_name(self):
        self.assertEqual(marking_for(telling=((), (0,)), many=1), Marking(1, ((0,),)))


class RefusedTest(Case):
    def test_wrong_numbers(self):
        for call in (needed, marking_for):
            for many in WRONG_MANY:
                with self.subTest(call=call, many=many):
                    self.refused_with(InvalidNumber, many, call, many, ((), (0,)))
                    self.refused_with(InvalidNumber, many, call, many, ((), tuple(range(5))))

    def test_no_tellings(self):
        for call in (needed, marking_for):
            for many, value in product(range(1, 5), NO_TELLINGS + [deep(60)]):
                with self.subTest(call=call, many=many, value=value):
                    self.refused_with(InvalidTelling, value, call, many, value)

    def test_tellings_of_other_numbers(self):
        for call in (needed, marking_for):
            for many, telling in TELLINGS[:60]:
                for other in range(1, 5):
                    if other != many:
                        self.refused_with(InvalidTelling, telling, call, other, telling)

    def test_changed_at_one_place(self):
        for call in (needed, marking_for):
            for many, telling in TELLINGS[:25]:
                for value in changes(telling):
                    if not expected_telling(many, value):
                        with self.subTest(call=call, many=many, value=value):
                            self.refused_with(InvalidTelling, value, call, many, value)

    def test_both_wrong_tells_of_the_number(self):
        for call in (needed, marking_for):
            for many, value in product(WRONG_MANY, NO_TELLINGS):
                self.refused_with(InvalidNumber, many, call, many, value)

    def test_refused_lists_are_not_changed(self):
        value = [(), [0]]
        for call in (needed, marking_for):
            self.refused_with(InvalidNumber, value, call, value, ((), (0,)))
            self.refused_with(InvalidTelling, value, call, 1, value)
        self.assertEqual(value, [(), [0]])


class BasicsTest(Case):
    def test_equal_arguments_tell_equal_results(self):
        for marking in ALL_MARKINGS:
            self.assertEqual(yeses(marking), yeses(Marking(marking.cells, marking.marks)))
        for many, telling in TELLINGS:
            self.assertEqual(needed(many, telling), needed(many, tuple(list(telling))))
            self.assertEqual(marking_for(many, telling), marking_for(many, tuple(list(telling))))

    def test_arguments_are_not_changed(self):
        for marking in MARKINGS:
            cells, marks = marking.cells, marking.marks
            yeses(marking), avoiding(marking, 0)
            self.assertEqual((marking.cells, marking.marks), (cells, marks))


if __name__ == "__main__":
    unittest.main()

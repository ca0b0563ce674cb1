import random
import unittest
from itertools import product

from cases import Case
from changes import changes, deep, is_number
from samples import FOUR, NOT_INTEGERS, NOT_TUPLES, Plain
from markfilters.errors import FilterError, InvalidBits, InvalidNumber, InvalidRows, InvalidTable, Undefined
from markfilters.prints import Table, cut, grown, joined, print_table, put, shrunk, taken, tells

FORMS = list(product([1, 2, 4, 8], range(6)))
WRONG_ROOMS = [0, 3, 16, -1, -2, 5, 6, 7, 9, 32, 999999999999] + NOT_INTEGERS
WRONG_BITS = [-1, 6, -5, 7, 100, 999999999999, -999999999999] + NOT_INTEGERS
NO_PRINTS = [-1, 256, -256, 257, 999999999999, -999999999999] + NOT_INTEGERS


def drawn_prints():
    """For each number of rooms and of bits tuples of up to 24 prints."""
    draw = random.Random(15)
    for rooms, bits in FORMS:
        yield rooms, bits, ()
        yield rooms, bits, tuple(draw.randrange(256) for _ in range(24))
        yield rooms, bits, (draw.randrange(256),) * 3 + (draw.randrange(256),)
        yield rooms, bits, tuple(draw.randrange(256) for _ in range(draw.randint(1, 9)))
        yield rooms, bits, tuple(draw.randrange(20) for _ in range(draw.randint(2, 23)))


DRAWN = list(drawn_prints())


def rows_of(rooms, bits, prints):
    """The rows of the table of these prints, as the document tells them."""
    rows = [[] for _ in range(rooms)]
    for number in prints:
        rows[number % rooms].append(number // rooms % 2 ** bits)
    return tuple(tuple(sorted(row)) for row in rows)


def expected_rows(rooms, bits, value):
    """Whether value are the rows of a table."""
    if not isinstance(value, tuple) or len(value) != rooms or not all(isinstance(row, tuple) for row in value):
        return False
    if not all(is_number(number) and number < 2 ** bits for row in value for number in row):
        return False
    return all(list(row) == sorted(row) for row in value) and sum(map(len, value)) <= 24


class TableCase(Case):
    def is_table(self, table, rooms, bits, rows):
        """It is a table of plain values that has just these."""
        self.assertIs(type(table), Table)
        self.assertIs(type(table.rooms), int)
        self.assertIs(type(table.bits), int)
        self.assertIs(type(table.rows), tuple)
        for row in table.rows:
            self.plain_integers(row)
        self.assertEqual((table.rooms, table.bits, table.rows), (rooms, bits, rows))

    def is_of(self, table, rooms, bits, prints):
        """It is the table of these prints."""
        self.is_table(table, rooms, bits, rows_of(rooms, bits, prints))

    def undefined(self, what, call, *arguments):
        with self.assertRaises(FilterError) as caught:
            call(*arguments)
        self.assertIs(type(caught.exception), Undefined)
        self.assertEqual(caught.exception.what, what)

    def yes(self, table):
        """All prints that the table says yes to."""
        told = set()
        for number in range(256):
            answer = tells(table, number)
            self.assertIs(type(answer), bool)
            if answer:
                told.add(number)
        return told


class TableTest(TableCase):
    def refused_rooms(self, rooms, bits, rows):
        with self.subTest(rooms=rooms, bits=bits, rows=rows):
            self.refused_with(InvalidNumber, rooms, Table, rooms, bits, rows)

    def refused_bits(self, rooms, bits, rows):
        with self.subTest(rooms=rooms, bits=bits, rows=rows):
            self.refused_with(InvalidNumber, bits, Table, rooms, bits, rows)

    def refused_rows(self, rooms, bits, rows):
        with self.subTest(rooms=rooms, bits=bits, rows=rows):
            self.refused_with(InvalidRows, rows, Table, rooms, bits, rows)

    def test_attributes_are_kept(self):
        self.is_table(Table(2, 3, ((0, 7), (1, 1, 5))), 2, 3, ((0, 7), (1, 1, 5)))
        self.is_table(Table(rows=((), (3,)), bits=2, rooms=2), 2, 2, ((), (3,)))

    def test_all_forms(self):
        for rooms, bits in FORMS:
            most = 2 ** bits - 1
            for row in [(), (0,), (most,), (0, most), (most, most), (0, 0, most // 2, most)]:
                rows = (row,) + ((),) * (rooms - 1)
                self.is_table(Table(rooms, bits, rows), rooms, bits, rows)
                self.is_table(Table(rooms, bits, rows[::-1]), rooms, bits, rows[::-1])
                rows = (row[:2],) * rooms
                self.is_table(Table(rooms, bits, rows), rooms, bits, rows)

    def test_attributes_are_plain(self):
        self.is_table(Table(2, 1, Plain((Plain((0, 1)), Plain(())))), 2, 1, ((0, 1), ()))

    def test_wrong_rooms(self):
        for rooms in WRONG_ROOMS:
            self.refused_rooms(rooms, 1, ((0,),))
            self.refused_rooms(rooms, 1, ((0,),) * 3)
            self.refused_rooms(rooms, 0, ())

    def test_wrong_bits(self):
        for bits in WRONG_BITS:
            for rooms in (1, 2, 4, 8):
                self.refused_bits(rooms, bits, ((0,),) * rooms)
                self.refused_bits(rooms, bits, ((),) * rooms)

    def test_too_few_and_too_many_rooms(self):
        for rooms in (1, 2, 4, 8):
            for many in set(range(18)) - {rooms}:
                self.refused_rows(rooms, 2, ((),) * many)
                self.refused_rows(rooms, 2, ((1,),) * many)

    def test_a_number_too_great(self):
        for rooms, bits in FORMS:
            for number in [2 ** bits, 2 ** bits + 1, 255, 999999999999, -1, -2 ** bits]:
                self.refused_rows(rooms, bits, ((number,),) + ((),) * (rooms - 1))
                self.refused_rows(rooms, bits, ((),) * (rooms - 1) + ((number,),))
                self.refused_rows(rooms, bits, ((0,),) * (rooms - 1) + ((0, number),))

    def test_out_of_order(self):
        for rows in [((1, 0), ()), ((), (3, 2)), ((0, 2, 1), ()), ((0,), (0, 3, 3, 2)), ((1, 1, 0), (0,))]:
            self.refused_rows(2, 2, rows)

    def test_equal_numbers_may_stand(self):
        for row in [(0, 0), (3, 3, 3), (0, 0, 1, 1), (2,) * 24]:
            self.is_table(Table(1, 2, (row,)), 1, 2, (row,))

    def test_at_most_24_numbers_in_all_rooms(self):
        for rows in [((1,) * 24,), ((0,) * 12 + (3,) * 12,)]:
            self.is_table(Table(1, 2, rows), 1, 2, rows)
            self.refused_rows(1, 2, (rows[0] + (3,),))
        for rows in [((1,) * 12, (1,) * 12), ((), (1,) * 24), ((1,) * 23, (0,))]:
            self.is_table(Table(2, 2, rows), 2, 2, rows)
            self.refused_rows(2, 2, (rows[0], rows[1] + (3,)))
            self.refused_rows(2, 2, ((0,) + rows[0], rows[1]))
        for rows in [((2,) * 3,) * 8, ((2,) * 6,) * 4 + ((),) * 4]:
            self.is_table(Table(8, 2, rows), 8, 2, rows)
            self.refused_rows(8, 2, rows[:7] + ((rows[7] + (2,)),))
        self.refused_rows(1, 2, ((0,) * 29999,))
        self.refused_rows(2, 2, ((0,) * 24, (0,) * 24))

    def test_lists(self):
        for rows in [[(0,), ()], [[0], []], ([0], ()), ((0,), []), ((0,), [1]), ((0, [1]), ())]:
            self.refused_rows(2, 2, rows)

    def test_bools(self):
        for rows in [((False,), ()), ((), (True,)), ((0, True), ()), ((False, 1), ()), (True, False)]:
            self.refused_rows(2, 2, rows)

    def test_other_kinds(self):
        for rows in NOT_TUPLES + [(None,), ("0",), ("",), (((0,),),), (((),),), (FOUR,), deep(60), (0,), (1.0,)]:
            self.refused_rows(1, 3, rows)
        self.refused_rows(1, 3, (("0",),))
        self.refused_rows(1, 3, ((0, None),))
        self.refused_rows(1, 3, ((0.0,),))
        self.refused_rows(2, 3, "01")
        self.refused_rows(2, 3, {0: (), 1: ()})

    def test_changed_at_one_place(self):
        for rooms, bits, rows in [(1, 1, ((0, 1),)), (2, 2, ((1, 1, 3), (0,))), (4, 5, ((31,), (), (0, 7), ()))]:
            for value in changes(rows):
                if expected_rows(rooms, bits, value):
                    self.is_table(Table(rooms, bits, value), rooms, bits, value)
                else:
                    self.refused_rows(rooms, bits, value)

    def test_several_wrong_tell_of_the_first(self):
        for rooms, bits, rows in product([0, 3, True, None, [1]], [0, 6, True, [2]], [((),), (), [()], None]):
            self.refused_rooms(rooms, bits, rows)
        for bits, rows in product(WRONG_BITS, [(), ((0,), ()), [()], None, ((99,),), ((True,),)]):
            self.refused_bits(1, bits, rows)

    def test_equal(self):
        for rooms, bits, prints in DRAWN:
            rows = rows_of(rooms, bits, prints)
            one, other = Table(rooms, bits, rows), Table(rooms, bits, tuple(list(rows)))
            self.assertIs(one == other, True)
            self.assertIs(one != other, False)
            self.assertIs(one == one, True)

    def test_not_equal_if_one_place_differs(self):
        table = Table(2, 2, ((1, 1, 3), (0,)))
        others = [
            Table(2, 3, ((1, 1, 3), (0,))), Table(2, 5, ((1, 1, 3), (0,))), Table(2, 2, ((1, 1, 2), (0,))),
            Table(2, 2, ((0, 1, 3), (0,))), Table(2, 2, ((1, 1, 3), (1,))), Table(2, 2, ((1, 3), (0,))),
            Table(2, 2, ((1, 1, 3), ())), Table(2, 2, ((1, 1, 3), (0, 0))), Table(2, 2, ((0,), (1, 1, 3))),
            Table(4, 2, ((1, 1, 3), (0,), (), ())), Table(2, 2, ((0, 1, 1, 3), ())), Table(1, 2, ((0, 1, 1, 3),)),
            Table(2, 2, ((1, 3, 3), (0,))), Table(2, 2, ((), ())),
        ]
        for other in others:
            self.assertIs(table == other, False)
            self.assertIs(other == table, False)
            self.assertIs(table != other, True)
        self.assertIs(Table(1, 1, ((),)) == Table(1, 2, ((),)), False)
        self.assertIs(Table(1, 1, ((),)) == Table(2, 1, ((), ())), False)

    def test_not_equal_to_another_kind(self):
        class Lookalike:
            rooms, bits, rows = 1, 1, ((0,),)

        class Agrees:
            def __eq__(self, other):
                return True

        table = Table(1, 1, ((0,),))
        for other in [(1, 1, ((0,),)), [1, 1, ((0,),)], ((0,),), 1, True, None, "", Lookalike(), Table, FOUR]:
            self.assertIs(table == other, False)
            self.assertIs(table != other, True)
        self.assertIs(table == Agrees(), False)

    def test_not_iterable(self):
        for rooms, bits in FORMS:
            table = Table(rooms, bits, ((0,),) * rooms)
            self.assertRaises(TypeError, iter, table)
            self.assertRaises(TypeError, list, table)
            with self.assertRaises(TypeError):
                0 in table

    def test_a_refused_list_is_not_changed(self):
        rows = [[1, 0], (2,)]
        self.refused_rows(2, 2, rows)
        self.assertEqual(rows, [[1, 0], (2,)])


class PrintTableTest(TableCase):
    def test_examples(self):
        self.is_table(print_table(1, 0, (7, 200)), 1, 0, ((0, 0),))
        self.is_table(print_table(2, 3, (6, 15, 22, 1)), 2, 3, ((3, 3), (0, 7)))
        self.is_table(print_table(8, 5, (255, 0)), 8, 5, ((0,), (), (), (), (), (), (), (31,)))
        self.is_table(print_table(4, 2, ()), 4, 2, ((), (), (), ()))

    def test_drawn_prints(self):
        for rooms, bits, prints in DRAWN:
            self.is_of(print_table(rooms, bits, prints), rooms, bits, prints)
            self.is_of(print_table(rooms, bits, prints[::-1]), rooms, bits, prints)

    def test_each_print(self):
        for (rooms, bits), number in product(FORMS, range(256)):
            self.is_of(print_table(rooms, bits, (number,)), rooms, bits, (number,))

    def test_24_and_25_prints(self):
        for rooms, bits in FORMS:
            for prints in [(0,) * 24, (255,) * 24, tuple(range(24)), tuple(range(232, 256))]:
                self.is_of(print_table(rooms, bits, prints), rooms, bits, prints)
                more = prints + (100,)
                self.refused_with(InvalidBits, more, print_table, rooms, bits, more)

    def test_no_prints(self):
        wrong = [(number,) for number in NO_PRINTS] + [(0, number) for number in NO_PRINTS]
        wrong += [[], [1], [1, 2], deep(60), ((0, 1),), (0,) * 30000, (1, 2, [3])]
        for prints in NOT_TUPLES + wrong:
            for rooms, bits in [(1, 0), (2, 3), (8, 5)]:
                with self.subTest(prints=prints):
                    self.refused_with(InvalidBits, prints, print_table, rooms, bits, prints)

    def test_wrong_numbers(self):
        for rooms in WRONG_ROOMS:
            self.refused_with(InvalidNumber, rooms, print_table, rooms, 1, (0,))
        for bits in WRONG_BITS:
            self.refused_with(InvalidNumber, bits, print_table, 2, bits, (0,))

    def test_several_wrong_tell_of_the_first(self):
        for rooms, bits, prints in product([0, 3, True, None, [1]], [0, 6, True, [2]], [(), (256,), [0], None]):
            self.refused_with(InvalidNumber, rooms, print_table, rooms, bits, prints)
        for bits, prints in product(WRONG_BITS, [(256,), [0], None, (0,) * 25]):
            self.refused_with(InvalidNumber, bits, print_table, 1, bits, prints)

    def test_by_name(self):
        self.is_table(print_table(prints=(3,), bits=1, rooms=2), 2, 1, ((), (1,)))

    def test_a_tuple_of_its_own_class(self):
        self.is_table(print_table(2, 1, Plain((3, 1))), 2, 1, ((), (0, 1)))


class TellsTest(TableCase):
    def test_examples(self):
        table = print_table(2, 1, (6,))
        self.assertEqual([number for number in range(12) if tells(table, number)], [2, 6, 10])

    def test_all_prints_are_asked_of_tables(self):
        for rooms, bits, prints in DRAWN:
            modulus = rooms * 2 ** bits
            kept = {number % modulus for number in prints}
            expected = {number for number in range(256) if number % modulus in kept}
            self.assertEqual(self.yes(print_table(rooms, bits, prints)), expected)

    def test_tables_by_rows(self):
        for rooms, bits, prints in DRAWN:
            table = Table(rooms, bits, rows_of(rooms, bits, prints))
            self.assertLessEqual(set(prints), self.yes(table))
        table = Table(2, 2, ((0,), (3,)))
        self.assertEqual(self.yes(table), set(range(0, 256, 8)) | set(range(7, 256, 8)))

    def test_no_prints(self):
        for rooms, bits in FORMS:
            table = print_table(rooms, bits, (0, 1, 255))
            for number in NO_PRINTS:
                with self.subTest(number=number):
                    self.refused_with(InvalidNumber, number, tells, table, number)

    def test_by_name(self):
        self.assertIs(tells(number=6, table=print_table(2, 1, (6,))), True)


class GrownTest(TableCase):
    def test_examples(self):
        self.is_table(grown(Table(1, 2, ((0, 1, 2, 2, 3),))), 2, 1, ((0, 1, 1), (0, 1)))
        self.is_table(grown(Table(2, 1, ((0,), (0, 1)))), 4, 0, ((0,), (0,), (), (0,)))

    def test_is_the_table_of_the_prints(self):
        for rooms, bits, prints in DRAWN:
            if rooms < 8 and bits > 0:
                table = print_table(rooms, bits, prints)
                more = grown(table)
                self.is_of(more, rooms * 2, bits - 1, prints)
                self.assertEqual(self.yes(more), self.yes(table))
                self.assertEqual(shrunk(more), table)
                self.is_of(table, rooms, bits, prints)

    def test_undefined(self):
        for rooms, bits in FORMS:
            if rooms == 8 or bits == 0:
                for prints in [(), (1, 2, 255)]:
                    self.undefined("bits", grown, print_table(rooms, bits, prints))

    def test_by_name(self):
        self.is_table(grown(table=Table(1, 1, ((1,),))), 2, 0, ((), (0,)))


class ShrunkTest(TableCase):
    def test_examples(self):
        self.is_table(shrunk(Table(2, 1, ((0, 1, 1), (0, 1)))), 1, 2, ((0, 1, 2, 2, 3),))
        self.is_table(shrunk(Table(4, 0, ((0,), (0,), (), (0,)))), 2, 1, ((0,), (0, 1)))

    def test_is_the_table_of_the_prints(self):
        for rooms, bits, prints in DRAWN:
            if rooms > 1 and bits < 5:
                table = print_table(rooms, bits, prints)
                less = shrunk(table)
                self.is_of(less, rooms // 2, bits + 1, prints)
                self.assertEqual(self.yes(less), self.yes(table))
                self.assertEqual(grown(less), table)
                self.is_of(table, rooms, bits, prints)

    def test_undefined(self):
        for rooms, bits in FORMS:
            if rooms == 1 or bits == 5:
                for prints in [(), (1, 2, 255)]:
                    self.undefined("rooms", shrunk, print_table(rooms, bits, prints))

    def test_by_name(self):
        self.is_table(shrunk(table=Table(2, 0, ((), (0,)))), 1, 1, ((1,),))


class CutTest(TableCase):
    def test_examples(self):
        self.is_table(cut(Table(2, 3, ((1, 4, 7), (5,)))), 2, 2, ((0, 1, 3), (1,)))
        self.is_table(cut(Table(1, 1, ((0, 1, 1),))), 1, 0, ((0, 0, 0),))

    def test_is_the_table_of_the_prints(self):
        for rooms, bits, prints in DRAWN:
            if bits > 0:
                table = print_table(rooms, bits, prints)
                self.is_of(cut(table), rooms, bits - 1, prints)
                self.assertLessEqual(self.yes(table), self.yes(cut(table)))
                self.is_of(table, rooms, bits, prints)

    def test_undefined(self):
        for rooms in (1, 2, 4, 8):
            for prints in [(), (1, 2, 255)]:
                self.undefined("bits", cut, print_table(rooms, 0, prints))

    def test_by_name(self):
        self.is_table(cut(table=Table(1, 1, ((1,),))), 1, 0, ((0,),))


class JoinedTest(TableCase):
    def refused_other(self, one, other):
        with self.subTest(one=one.rows, other=other):
            self.refused_with(InvalidTable, other, joined, one, other)

    def test_examples(self):
        told = joined(Table(2, 2, ((0, 3), ())), Table(2, 2, ((1, 3), (2,))))
        self.is_table(told, 2, 2, ((0, 1, 3, 3), (2,)))

    def test_is_the_table_of_the_prints(self):
        draw = random.Random(16)
        for rooms, bits, prints in DRAWN:
            others = tuple(draw.randrange(256) for _ in range(draw.randint(0, 24 - len(prints))))
            one, other = print_table(rooms, bits, prints), print_table(rooms, bits, others)
            self.is_of(joined(one, other), rooms, bits, prints + others)
            self.assertEqual(joined(other, one), joined(one, other))
            self.assertEqual(self.yes(joined(one, other)), self.yes(one) | self.yes(other))
            self.is_of(one, rooms, bits, prints)
            self.is_of(other, rooms, bits, others)

    def test_with_itself_and_with_none(self):
        table, none = print_table(4, 2, (5, 5, 9)), print_table(4, 2, ())
        self.is_of(joined(table, table), 4, 2, (5, 5, 9) * 2)
        self.assertEqual(joined(table, none), table)
        self.assertEqual(joined(none, none), none)

    def test_other_rooms_and_other_bits(self):
        for (rooms, bits), (others, more) in product(FORMS, FORMS):
            if (rooms, bits) != (others, more):
                for prints in [(), (3, 77)]:
                    self.refused_other(print_table(rooms, bits, prints), print_table(others, more, prints))

    def test_24_and_25_numbers(self):
        for rooms, bits in FORMS:
            for many in (0, 1, 12, 23, 24):
                one = print_table(rooms, bits, tuple(range(many)))
                other = print_table(rooms, bits, tuple(range(100, 124 - many)))
                self.is_of(joined(one, other), rooms, bits, tuple(range(many)) + tuple(range(100, 124 - many)))
                if many > 0:
                    self.refused_other(one, print_table(rooms, bits, tuple(range(100, 125 - many))))
            full = print_table(rooms, bits, tuple(range(24)))
            self.refused_other(full, full)

    def test_no_tables(self):
        table = Table(1, 1, ((0,),))
        for other in NOT_TUPLES + [(1, 1, ((0,),)), ((0,),), (), (table,), [table], Table, deep(60)]:
            self.refused_other(table, other)

    def test_by_name(self):
        told = joined(other=Table(1, 1, ((0,),)), one=Table(1, 1, ((1,),)))
        self.is_table(told, 1, 1, ((0, 1),))


class PutTest(TableCase):
    def test_examples(self):
        self.is_table(put(Table(2, 2, ((0, 3), ())), 2), 2, 2, ((0, 1, 3), ()))
        self.is_table(put(Table(2, 2, ((0, 3), ())), 255), 2, 2, ((0, 3), (3,)))
        self.is_table(put(Table(2, 2, ((0, 3), ())), 0), 2, 2, ((0, 0, 3), ()))

    def test_is_the_table_of_the_prints(self):
        for rooms, bits, prints in DRAWN:
            if len(prints) < 24:
                table = print_table(rooms, bits, prints)
                for number in [0, 1, 255, 128, 77, *prints[:2]]:
                    self.is_of(put(table, number), rooms, bits, prints + (number,))
                    self.assertEqual(taken(put(table, number), number), table)
                self.is_of(table, rooms, bits, prints)

    def test_each_print(self):
        for rooms, bits in FORMS:
            for number in range(256):
                self.is_of(put(print_table(rooms, bits, (9, 90)), number), rooms, bits, (9, 90, number))

    def test_23_and_24_numbers(self):
        for rooms, bits in FORMS:
            for prints in [(7,) * 23, tuple(range(50, 73))]:
                full = put(print_table(rooms, bits, prints), 200)
                self.is_of(full, rooms, bits, prints + (200,))
                for number in [0, 255, 200]:
                    self.undefined("room", put, full, number)
                self.is_of(full, rooms, bits, prints + (200,))

    def test_no_prints(self):
        for table in [print_table(1, 0, ()), print_table(4, 3, (1, 2)), print_table(2, 5, tuple(range(24)))]:
            for number in NO_PRINTS:
                with self.subTest(number=number):
                    self.refused_with(InvalidNumber, number, put, table, number)

    def test_by_name(self):
        self.is_table(put(number=1, table=Table(1, 1, ((0,),))), 1, 1, ((0, 1),))


class TakenTest(TableCase):
    def test_examples(self):
        self.is_table(taken(Table(2, 2, ((0, 1, 3), ())), 2), 2, 2, ((0, 3), ()))
        self.is_table(taken(Table(2, 2, ((0, 3, 3), ())), 6), 2, 2, ((0, 3), ()))
        # 14 is equal to 6 but for the bits that are cut off.
        self.is_table(taken(Table(2, 2, ((0, 3), ())), 14), 2, 2, ((0,), ()))

    def test_is_the_table_of_the_others(self):
        for rooms, bits, prints in DRAWN:
            table = print_table(rooms, bits, prints)
            for at, number in enumerate(prints):
                others = prints[:at] + prints[at + 1:]
                told = taken(table, number)
                self.is_of(told, rooms, bits, others)
                like = [other for other in others if (other - number) % (rooms * 2 ** bits) == 0]
                self.assertIs(tells(told, number), like != [])
            self.is_of(table, rooms, bits, prints)

    def test_said_no(self):
        for rooms, bits, prints in DRAWN:
            table = print_table(rooms, bits, prints)
            for number in set(range(256)) - self.yes(table):
                self.undefined("no", taken, table, number)
            self.is_of(table, rooms, bits, prints)

    def test_one_that_stands_twice(self):
        for rooms, bits in FORMS:
            table = print_table(rooms, bits, (100, 100))
            once = taken(table, 100)
            self.is_of(once, rooms, bits, (100,))
            self.assertIs(tells(once, 100), True)
            none = taken(once, 100)
            self.is_of(none, rooms, bits, ())
            self.undefined("no", taken, none, 100)

    def test_no_prints(self):
        for table in [print_table(1, 0, ()), print_table(4, 3, (1, 2)), print_table(1, 0, (0,))]:
            for number in NO_PRINTS:
                with self.subTest(number=number):
                    self.refused_with(InvalidNumber, number, taken, table, number)

    def test_by_name(self):
        self.is_table(taken(number=1, table=Table(1, 1, ((0, 1),))), 1, 1, ((0,),))


class BasicsTest(TableCase):
    def test_equal_arguments_tell_equal_results(self):
        for rooms, bits, prints in DRAWN:
            one, other = print_table(rooms, bits, prints), print_table(rooms, bits, tuple(list(prints)))
            self.assertEqual(one, other)
            if bits > 0:
                self.assertEqual(cut(one), cut(other))
            if prints:
                self.assertEqual(taken(one, prints[0]), taken(other, prints[0]))

    def test_refused_lists_are_not_changed(self):
        value = [1, [0]]
        table = Table(1, 1, ((0,),))
        for kind, call, arguments in [
            (InvalidNumber, tells, (table, value)), (InvalidNumber, put, (table, value)),
            (InvalidNumber, taken, (table, value)), (InvalidTable, joined, (table, value)),
            (InvalidBits, print_table, (1, 1, value)), (InvalidRows, Table, (1, 1, value)),
        ]:
            self.refused_with(kind, value, call, *arguments)
        self.assertEqual(value, [1, [0]])
        self.is_table(table, 1, 1, ((0,),))

    def test_tables_do_not_share(self):
        one = Table(1, 1, ((0,),))
        Table(2, 3, ((7,), (1,)))
        put(one, 1), taken(one, 0), joined(one, one), grown(one), cut(one)
        self.is_table(one, 1, 1, ((0,),))


if __name__ == "__main__":
    unittest.main()

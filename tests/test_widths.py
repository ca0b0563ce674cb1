import random
import unittest
from itertools import combinations, product

from cases import Case
from changes import ascends, ascends_below, changes, deep
from samples import FOUR, NOT_INTEGERS, NOT_TUPLES, Plain
from markfilters.errors import FilterError, InvalidNumber, Undefined
from markfilters.widths import family, fewest, is_family, walls, walls_hold

TRIPLES = [(many, size, width) for many in range(1, 6) for size in range(many) for width in range(size + 1, many + 1)]

# The least lengths that are more than 1.
LEAST = {
    (3, 1, 2): 2, (4, 1, 2): 2, (4, 1, 3): 2, (4, 2, 3): 3, (5, 1, 2): 3, (5, 1, 3): 2, (5, 1, 4): 2,
    (5, 2, 3): 4, (5, 2, 4): 3, (5, 3, 4): 4,
}

WRONG_MANY = [0, 6, -1, 7, 100, 999999999999, -999999999999] + NOT_INTEGERS
WRONG_K = [0, 5, -1, 6, 100, 999999999999, -999999999999] + NOT_INTEGERS
ODD_VALUES = NOT_TUPLES + [(), ((),), (((),),), (0,), (None,), ("",), [()], [[]], deep(60), (FOUR,), ((0,),) * 15000]


def chosen(many, size):
    return list(combinations(range(many), size))


def expected_family(many, size, width, value):
    """Whether value is a family, as the document tells it."""
    if not isinstance(value, tuple) or not all(ascends_below(member, many) for member in value):
        return False
    if not all(len(member) == width for member in value) or not ascends(value):
        return False
    return all(any(set(keys) <= set(member) for member in value) for keys in chosen(many, size))


def first_family(many, size, width):
    """The first family of the least length, by all families gone through."""
    length = 1
    while True:
        for members in combinations(chosen(many, width), length):
            if expected_family(many, size, width, members):
                return members
        length += 1


FAMILIES = {triple: first_family(*triple) for triple in TRIPLES}


def expected_lots(many, size, value):
    """Whether value is an ascending tuple of lots."""
    if not isinstance(value, tuple) or not all(isinstance(lot, tuple) and lot != () for lot in value):
        return False
    if not all(ascends_below(keys, many) and len(keys) == size for lot in value for keys in lot):
        return False
    return all(ascends(lot) for lot in value) and ascends(value)


def expected_walls(many, size, width, k, value):
    """Whether value are walls for k, as the document tells it."""
    if type(k) is not int or k < 1 or not isinstance(value, tuple) or len(value) != k + 1:
        return False
    if not all(expected_lots(many, size, lots) for lots in value) or value[0] == ():
        return False
    for t in range(k):
        for lot, wide in product(value[t], chosen(many, width)):
            left = {keys for keys in lot if not set(keys) <= set(wide)}
            if not any(set(other) <= left for other in value[t + 1]):
                return False
    return True


WALLED = [(triple, k) for triple, least in LEAST.items() for k in range(1, least)]


def wrong_numbers():
    """Numbers of which one or more are wrong, each with the place of the first wrong one."""
    for many in WRONG_MANY:
        for size, width in [(0, 1), (1, 2), (99, 0), (None, [1]), (True, True)]:
            yield 0, (many, size, width)
    for many in range(1, 6):
        for size in [many, many + 1, -1, 999999999999, -999999999999] + NOT_INTEGERS:
            for width in [1, many, 0, 99, None, [2]]:
                yield 1, (many, size, width)
        for size in range(many):
            for width in [size, size - 1, many + 1, -1, 99, 999999999999, -999999999999] + NOT_INTEGERS:
                yield 2, (many, size, width)


class WidthsCase(Case):
    def undefined(self, call, *arguments):
        with self.assertRaises(FilterError) as caught:
            call(*arguments)
        self.assertIs(type(caught.exception), Undefined)
        self.assertEqual(caught.exception.what, "walls")


class IsFamilyTest(WidthsCase):
    def told(self, triple, value, expected):
        with self.subTest(triple=triple, value=value):
            self.assertIs(is_family(*triple, value), expected)

    def test_examples(self):
        self.told((4, 1, 2), ((0, 1), (2, 3)), True)
        self.told((4, 1, 2), ((0, 1), (1, 2), (2, 3)), True)
        self.told((4, 1, 2), ((0, 1), (1, 2)), False)
        self.told((4, 2, 3), ((0, 1, 2), (0, 1, 3), (0, 2, 3)), True)
        self.told((4, 2, 3), ((0, 1, 2), (0, 1, 3), (1, 2, 3)), True)
        self.told((4, 2, 3), ((0, 1, 2), (0, 1, 3)), False)
        self.told((1, 0, 1), ((0,),), True)

    def test_no_keys_need_a_member(self):
        for many in range(1, 6):
            for width in range(1, many + 1):
                self.told((many, 0, width), (), False)
                self.told((many, 0, width), (tuple(range(width)),), True)
                self.told((many, 0, width), (tuple(range(many - width, many)),), True)

    def test_all_families_of_a_few(self):
        for triple in TRIPLES:
            wide = chosen(triple[0], triple[2])
            for length in range(5):
                for members in combinations(wide, length):
                    self.assertIs(is_family(*triple, members), expected_family(*triple, members))

    def test_all_families_of_many(self):
        for triple in TRIPLES:
            wide = tuple(chosen(triple[0], triple[2]))
            self.told(triple, wide, True)
            for at in range(len(wide)):
                self.assertIs(is_family(*triple, wide[:at] + wide[at + 1:]),
                              expected_family(*triple, wide[:at] + wide[at + 1:]))

    def test_changed_at_one_place(self):
        for triple, members in FAMILIES.items():
            for value in changes(members):
                self.told(triple, value, expected_family(*triple, value))

    def test_out_of_order_and_twice(self):
        for triple, members in FAMILIES.items():
            self.told(triple, members, True)
            self.told(triple, members + members[-1:], False)
            self.told(triple, members[:1] + members, False)
            if len(members) > 1:
                self.told(triple, members[::-1], False)
            self.told(triple, tuple(member[::-1] for member in members), triple[2] == 1)

    def test_another_width(self):
        for triple in TRIPLES:
            for other, members in FAMILIES.items():
                if other[:2] == triple[:2]:
                    self.told(triple, members, expected_family(*triple, members))
        self.told((5, 1, 3), ((0, 1, 2, 3), (4,)), False)
        self.told((5, 1, 3), ((0, 1, 2), (2, 3, 4), (3, 4)), False)

    def test_lists_and_bools(self):
        self.told((2, 1, 2), ((0, 1),), True)
        for value in [[(0, 1)], ([0, 1],), ((0, True),), ((False, 1),), ((False, True),)]:
            self.told((2, 1, 2), value, False)

    def test_other_kinds(self):
        for triple in TRIPLES:
            for value in ODD_VALUES:
                self.told(triple, value, False)

    def test_by_name(self):
        self.assertIs(is_family(value=((0, 1),), width=2, size=1, many=2), True)
        self.assertIs(is_family(value=((0,), (1,)), width=2, size=1, many=2), False)


class FewestTest(WidthsCase):
    def test_all(self):
        for triple in TRIPLES:
            told = fewest(*triple)
            self.assertIs(type(told), int)
            self.assertEqual(told, len(FAMILIES[triple]))
            self.assertEqual(told, LEAST.get(triple, 1))

    def test_no_shorter_family(self):
        for triple in TRIPLES:
            for length in range(fewest(*triple)):
                for members in combinations(chosen(triple[0], triple[2]), length):
                    self.assertIs(is_family(*triple, members), False)

    def test_by_name(self):
        self.assertEqual(fewest(width=3, size=2, many=5), 4)


class FamilyTest(WidthsCase):
    def test_examples(self):
        self.assertEqual(family(1, 0, 1), ((0,),))
        self.assertEqual(family(5, 0, 2), ((0, 1),))
        self.assertEqual(family(5, 4, 5), ((0, 1, 2, 3, 4),))
        self.assertEqual(family(4, 1, 3), ((0, 1, 2), (0, 1, 3)))
        self.assertEqual(family(5, 2, 3), ((0, 1, 2), (0, 1, 3), (0, 1, 4), (2, 3, 4)))

    def test_all(self):
        for triple in TRIPLES:
            told = family(*triple)
            self.assertIs(type(told), tuple)
            for member in told:
                self.plain(member)
            self.assertEqual(told, FAMILIES[triple])
            self.assertIs(is_family(*triple, told), True)

    def test_by_name(self):
        self.assertEqual(family(width=2, size=1, many=2), ((0, 1),))


class NumbersTest(WidthsCase):
    def test_wrong_numbers(self):
        for place, triple in wrong_numbers():
            with self.subTest(triple=triple):
                for call in (fewest, family):
                    self.refused_with(InvalidNumber, triple[place], call, *triple)
                self.refused_with(InvalidNumber, triple[place], walls, *triple, 1)

    def test_wrong_numbers_are_told_ahead_of_k(self):
        for place, triple in list(wrong_numbers())[::7]:
            for k in [0, 5, 99, None, True, [1]]:
                self.refused_with(InvalidNumber, triple[place], walls, *triple, k)

    def test_the_first_of_several(self):
        for many, size, width in product([0, 6, None, [5]], [-1, 99, "1", [2]], [-2, 98, True, [3]]):
            for call in (fewest, family):
                self.refused_with(InvalidNumber, many, call, many, size, width)
        for size, width in product([-1, 99, "1", [2]], [-2, 98, True, [3]]):
            for call in (fewest, family):
                self.refused_with(InvalidNumber, size, call, 3, size, width)


class WallsTest(WidthsCase):
    def test_hold(self):
        for triple, k in WALLED:
            told = walls(*triple, k)
            self.assertIs(expected_walls(*triple, k, told), True)
            self.assertIs(walls_hold(*triple, k, told), True)

    def test_are_plain(self):
        for triple, k in WALLED:
            told = walls(*triple, k)
            self.assertIs(type(told), tuple)
            self.assertEqual(len(told), k + 1)
            for lots in told:
                self.assertIs(type(lots), tuple)
                for lot in lots:
                    self.assertIs(type(lot), tuple)
                    for keys in lot:
                        self.plain(keys)

    def test_the_same_when_asked_again(self):
        for triple, k in WALLED:
            self.assertEqual(walls(*triple, k), walls(*triple, k))

    def test_undefined_from_fewest_on(self):
        for triple in TRIPLES:
            for k in range(len(FAMILIES[triple]), 5):
                self.undefined(walls, *triple, k)

    def test_wrong_k(self):
        for triple in TRIPLES:
            for k in WRONG_K:
                with self.subTest(triple=triple, k=k):
                    self.refused_with(InvalidNumber, k, walls, *triple, k)

    def test_by_name(self):
        self.assertEqual(walls(k=1, width=2, size=1, many=3), walls(3, 1, 2, 1))


class WallsHoldTest(WidthsCase):
    def told(self, triple, k, value, expected):
        with self.subTest(triple=triple, k=k, value=value):
            self.assertIs(walls_hold(*triple, k, value), expected)

    def as_expected(self, triple, k, value):
        self.told(triple, k, value, expected_walls(*triple, k, value))

    def test_examples(self):
        lots = (((0,), (1,), (2,)),), (((0,),), ((1,),), ((2,),))
        self.told((3, 1, 2), 1, lots, True)
        self.told((3, 1, 2), 1, ((((0,), (1,)),), (((0,),), ((1,),))), False)
        self.told((3, 1, 2), 1, (lots[0], lots[1][:2]), False)
        self.told((3, 1, 2), 1, (lots[0], ()), False)
        self.told((3, 1, 2), 1, ((), lots[1]), False)
        self.told((3, 1, 2), 2, lots + (((),),), False)
        self.told((3, 1, 2), 2, lots + ((),), False)

    def test_walls_of_own_making(self):
        # Whichever of the 5 items is left out, one of these pairs has it.
        lots = ((((0, 1), (2, 3), (2, 4), (3, 4)),), tuple((pair,) for pair in chosen(5, 2)))
        self.told((5, 2, 4), 1, lots, True)

    def test_changed_at_one_place(self):
        for triple, k in WALLED:
            told = walls(*triple, k)
            # Long walls have too many places for all to be changed.
            if len(str(told)) < 1500:
                for value in changes(told):
                    self.as_expected(triple, k, value)

    def test_a_lot_more_one_less_and_a_thinner_lot(self):
        draw = random.Random(17)
        holding = []
        for triple, k in WALLED:
            told = walls(*triple, k)
            for t in range(k + 1):
                for _ in range(12):
                    lots = list(told[t])
                    at = draw.randrange(len(lots))
                    more = tuple(sorted(draw.sample(chosen(*triple[:2]), draw.randint(1, 2))))
                    less, thinner = lots[:at] + lots[at + 1:], lots[:at] + [lots[at][1:]] + lots[at + 1:]
                    for some in [less, sorted(less), sorted(thinner), sorted(set(lots + [more])), lots + [more]]:
                        value = told[:t] + (tuple(some),) + told[t + 1:]
                        expected = expected_walls(*triple, k, value)
                        self.told(triple, k, value, expected)
                        holding.append(expected)
        self.assertIn(True, holding)
        self.assertIn(False, holding)

    def test_out_of_order(self):
        for triple, k in WALLED:
            told = walls(*triple, k)
            for t in range(k + 1):
                lots = told[t]
                if len(lots) > 1:
                    self.told(triple, k, told[:t] + (lots[::-1],) + told[t + 1:], False)
                self.told(triple, k, told[:t] + (lots + lots[-1:],) + told[t + 1:], False)
                self.told(triple, k, told[:t] + (lots[:1] + lots,) + told[t + 1:], False)
                for at, lot in enumerate(lots[:3]):
                    other = lot[::-1] if len(lot) > 1 else lot + lot
                    self.told(triple, k, told[:t] + (lots[:at] + (other,) + lots[at + 1:],) + told[t + 1:], False)

    def test_an_empty_lot(self):
        for triple, k in WALLED:
            told = walls(*triple, k)
            for t in range(k + 1):
                self.told(triple, k, told[:t] + (((),) + told[t],) + told[t + 1:], False)
                self.told(triple, k, told[:t] + (((),),) + told[t + 1:], False)
                self.told(triple, k, told[:t] + ((),) + told[t + 1:], False)

    def test_lists_and_bools(self):
        for triple, k in WALLED:
            told = walls(*triple, k)
            self.told(triple, k, list(told), False)
            for t in range(k + 1):
                lots = told[t]
                lot = lots[0]
                keys = lot[0]
                odd = [list(lots), (list(lot),) + lots[1:], ((list(keys),) + lot[1:],) + lots[1:]]
                odd += [((keys[:-1] + (bool(keys[-1]),),) + lot[1:],) + lots[1:]]
                odd += [(((bool(keys[0]),) + keys[1:],) + lot[1:],) + lots[1:]]
                for some in odd:
                    self.told(triple, k, told[:t] + (some,) + told[t + 1:], False)

    def test_other_numbers_of_k(self):
        for triple, k in WALLED:
            told = walls(*triple, k)
            for other in [0, 1, 2, 3, 4, 5, 6, -1, -k, 999999999999, True, False, None, "1", (1,), [1], 1.0, FOUR]:
                if not (type(other) is int and other == k):
                    self.told(triple, other, told, False)
            self.told(triple, k, told[:-1], False)
            self.told(triple, k, told + told[-1:], False)
            self.told(triple, k + 1, told + told[-1:], False)

    def test_walls_for_k_are_walls_for_less_when_cut_off(self):
        for triple, k in WALLED:
            told = walls(*triple, k)
            for less in range(1, k):
                self.told(triple, less, told[:less + 1], True)

    def test_k_0(self):
        for triple in TRIPLES:
            lots = (tuple(chosen(*triple[:2])),)
            for k in [0, -1, False]:
                for value in [(lots,), (), (lots, lots)]:
                    self.told(triple, k, value, False)

    def test_none_where_a_family_of_k_members_exists(self):
        for triple in TRIPLES:
            every = chosen(*triple[:2])
            singles = tuple((keys,) for keys in every)
            lots = tuple(sorted(lot for size in (1, 2, len(every)) for lot in set(combinations(every, size))))
            for k in range(len(FAMILIES[triple]), 7):
                self.told(triple, k, (singles,) * (k + 1), False)
                self.told(triple, k, (lots,) * (k + 1), False)
                self.told(triple, k, ((tuple(every),),) + (lots,) * k, False)
                self.told(triple, k, ((tuple(every),),) * (k + 1), False)

    def test_other_numbers_of_items(self):
        for triple, k in WALLED:
            told = walls(*triple, k)
            for other in TRIPLES:
                self.as_expected(other, k, told)

    def test_all_lots_there_are(self):
        every = chosen(5, 2)
        lots = tuple(sorted(lot for size in range(1, 11) for lot in combinations(every, size)))
        whole = ((tuple(every),),)
        self.told((5, 2, 3), 1, whole + (lots,), True)
        self.told((5, 2, 3), 1, (lots, lots), False)
        self.told((5, 2, 5), 1, whole + (lots,), False)

    def test_other_kinds(self):
        for triple in TRIPLES:
            for value, k in product(ODD_VALUES, [1, 2, 14999, None]):
                self.told(triple, k, value, False)
        for k, (triple, told) in product(ODD_VALUES, [((3, 1, 2), walls(3, 1, 2, 1))]):
            if not (type(k) is int and k == 1):
                self.told(triple, k, told, False)

    def test_by_name(self):
        told = walls(3, 1, 2, 1)
        self.assertIs(walls_hold(value=told, k=1, width=2, size=1, many=3), True)
        self.assertIs(walls_hold(value=told, k=2, width=2, size=1, many=3), False)


class BasicsTest(WidthsCase):
    def test_equal_arguments_tell_equal_results(self):
        for triple in TRIPLES:
            self.assertEqual(family(*triple), family(*triple))

    def test_tuples_of_their_own_class(self):
        self.assertIs(is_family(2, 1, 2, Plain((Plain((0, 1)),))), True)

    def test_lists_are_not_changed(self):
        value = [(0, 1), [2]]
        is_family(3, 1, 2, value), walls_hold(3, 1, 2, 1, value), walls_hold(3, 1, 2, value, value)
        self.refused_with(InvalidNumber, value, fewest, value, 1, 2)
        self.refused_with(InvalidNumber, value, family, 3, value, 2)
        self.refused_with(InvalidNumber, value, walls, 3, 1, 2, value)
        self.assertEqual(value, [(0, 1), [2]])


if __name__ == "__main__":
    unittest.main()

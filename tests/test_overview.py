"""The promises of the overview, each over drawn markings, by what several modules tell together."""

import random
import unittest
from fractions import Fraction
from itertools import combinations, product
from math import comb

from asking import claims_of, papers_for, some_questions
from cases import Case
from samples import MARKINGS, tuples_below
from markfilters.claims import answer_of, is_claim, is_question, question_of
from markfilters.desk import Desk
from markfilters.filling import filled, says, wrong, wrong_total
from markfilters.free import free_marks, free_share, is_free, most_free, worst
from markfilters.joining import folded, meets, met, met_wrong
from markfilters.leaving import counts, lost, misled, own_cells
from markfilters.markings import Marking
from markfilters.papers import claim_holds, paper_of
from markfilters.prints import cut, grown, joined, print_table, put, shrunk, taken, tells
from markfilters.shares import failing
from markfilters.tellings import is_telling, marking_for, needed, yeses
from markfilters.widths import family, fewest, is_family, walls, walls_hold


def drawn_markings(many):
    draw = random.Random(71)
    for _ in range(many):
        cells = draw.randint(1, 8)
        marks = [sorted(draw.sample(range(cells), draw.randint(1, cells))) for _ in range(draw.randint(1, 7))]
        yield Marking(cells, tuple(map(tuple, marks)))


ALL_MARKINGS = MARKINGS + list(drawn_markings(25))


def every_keys(marking):
    return tuples_below(len(marking))


def some_keys(marking, seed):
    return random.Random(seed).sample(every_keys(marking), min(10, 2 ** len(marking)))


class OverviewTest(Case):
    def test_1_filled_cells(self):
        for marking in ALL_MARKINGS:
            for keys in every_keys(marking):
                yes = says(marking, filled(marking, keys))
                self.assertEqual(sorted(set(yes) - set(keys)), list(wrong(marking, keys)))
                self.assertLessEqual(set(keys), set(yes))
            for one, other in product(some_keys(marking, 1), some_keys(marking, 2)):
                both = tuple(sorted(set(one) | set(other)))
                self.assertEqual(set(filled(marking, both)), set(filled(marking, one)) | set(filled(marking, other)))

    def test_2_wrong_yeses_in_all(self):
        for marking in ALL_MARKINGS:
            for size in range(len(marking) + 1):
                every = combinations(range(len(marking)), size)
                self.assertEqual(wrong_total(marking, size), sum(len(wrong(marking, keys)) for keys in every))

    def test_3_met_and_folded(self):
        for marking in ALL_MARKINGS:
            for one, other in product(some_keys(marking, 3), some_keys(marking, 4)):
                common = tuple(item for item in one if item in other)
                both = met(marking, one, other)
                self.assertIs(meets(marking, one, other), both == filled(marking, common))
                self.assertEqual(set(met_wrong(marking, one, other)), set(says(marking, both)) - set(common))
            if marking.cells % 2 == 0:
                half = folded(marking)
                for keys in every_keys(marking):
                    yes = says(marking, filled(marking, keys))
                    self.assertLessEqual(set(yes), set(says(half, filled(half, keys))))

    def test_4_keys_that_leave(self):
        for marking in ALL_MARKINGS:
            for keys in some_keys(marking, 5):
                for item in keys:
                    own = own_cells(marking, keys, item)
                    self.assertEqual(misled(marking, keys, item), ())
                    for cell in marking.marks[item]:
                        gone = [key for key in lost(marking, keys, (cell,)) if key != item]
                        self.assertIs(gone == [], cell in own)
                        self.assertIs(counts(marking, keys)[cell] == 1, cell in own)

    def test_5_shares(self):
        for cells, each, many in product(range(1, 5), range(1, 5), range(3)):
            if each <= cells:
                marks = list(combinations(range(cells), each))
                said = [set(item) <= set().union(*keys) for *keys, item in product(marks, repeat=many + 1)]
                self.assertEqual(Fraction(*failing(cells, each, many)), Fraction(sum(said), len(said)))

    def test_6_and_7_tellings(self):
        for marking in ALL_MARKINGS:
            many = len(marking)
            if many <= 4:
                telling = yeses(marking)
                self.assertIs(is_telling(many, telling), True)
                least = marking_for(many, telling)
                self.assertEqual(yeses(least), telling)
                self.assertEqual(least.cells, len(needed(many, telling)))
                self.assertLessEqual(least.cells, marking.cells)
                self.assertEqual(answer_of(marking, ("cells",)), ("cells", least.cells))

    def test_8_free_markings(self):
        for marking in ALL_MARKINGS:
            for size in range(len(marking) + 1):
                most, keys = worst(marking, size)
                self.assertEqual((len(keys), len(wrong(marking, keys))), (size, most))
                self.assertIs(is_free(marking, size), wrong_total(marking, size) == 0)
                self.assertIs(is_free(marking, size), most == 0)

    def test_9_free_marks(self):
        for cells in range(1, 9):
            marks = free_marks(cells, most_free(cells))
            self.assertEqual(len(marks), comb(cells, cells // 2))
            self.assertFalse(any(set(one) < set(other) for one, other in product(marks, repeat=2)))
            self.assertEqual(free_share(cells, marks), (1, 1))
            few = marks[-7:]
            self.assertIs(is_free(Marking(cells, few), 1), True)

    def test_10_tables_of_prints(self):
        draw = random.Random(72)
        for rooms, bits in product([1, 2, 4, 8], range(6)):
            prints = tuple(draw.randrange(256) for _ in range(10))
            table = print_table(rooms, bits, prints)
            modulus = rooms * 2 ** bits
            for number in range(256):
                self.assertIs(tells(table, number), any((number - one) % modulus == 0 for one in prints))
            if bits > 0:
                self.assertEqual(cut(table), print_table(rooms, bits - 1, prints))
            if bits > 0 and rooms < 8:
                self.assertEqual(grown(table), print_table(rooms * 2, bits - 1, prints))
                self.assertEqual(shrunk(grown(table)), table)
            self.assertEqual(joined(table, table), print_table(rooms, bits, prints * 2))
            self.assertEqual(taken(put(table, 99), 99), table)

    def test_11_widths(self):
        for many in range(1, 6):
            for size in range(many):
                for width in range(size + 1, many + 1):
                    least = fewest(many, size, width)
                    members = family(many, size, width)
                    self.assertEqual(len(members), least)
                    self.assertIs(is_family(many, size, width, members), True)
                    for k in range(1, least):
                        self.assertIs(walls_hold(many, size, width, k, walls(many, size, width, k)), True)

    def test_11_no_filter_needs_fewer(self):
        # The yeses of a marking hold, for each keys, one set with these: as widely as they are said yes at most.
        for marking in ALL_MARKINGS:
            many = len(marking)
            for size in range(many):
                if many <= 5 and size > 0:
                    sets = {says(marking, filled(marking, keys)) for keys in combinations(range(many), size)}
                    width = size + worst(marking, size)[0]
                    if width > size:
                        self.assertGreaterEqual(len(sets), fewest(many, size, width))

    def test_12_claims(self):
        for marking in ALL_MARKINGS:
            for question in some_questions(marking, 6, 73):
                self.assertIs(is_question(marking, question), True)
                true = answer_of(marking, question)
                for claim in claims_of(marking, question):
                    self.assertIs(is_claim(marking, claim), True)
                    self.assertEqual(question_of(marking, claim), question)
                    self.assertIs(claim_holds(marking, claim, paper_of(marking, question)), claim == true)
                    some = [paper for paper in papers_for(marking, claim) if claim_holds(marking, claim, paper)]
                    self.assertIs(some != [], claim == true)

    def test_13_desks(self):
        for marking in ALL_MARKINGS:
            desk, other = Desk(marking), Desk(marking)
            asked = list(some_questions(marking, 2, 74))[:8]
            for question in asked:
                desk.watch(question)
            papers = [desk.paper(question) for question in asked]
            desk.turn(0, marking.marks[-1])
            desk.add((0,)) if len(marking) < 7 else desk.drop(0)
            for question in desk.watched:
                if is_question(desk.marking, question):
                    self.assertEqual(desk.claim(question), answer_of(desk.marking, question))
                    self.assertIs(claim_holds(desk.marking, desk.claim(question), desk.paper(question)), True)
                else:
                    self.assertEqual((desk.claim(question), desk.paper(question)), (None, None))
            self.assertEqual((other.marking, other.watched, other.many), (marking, (), 0))
            desk.undo()
            desk.undo()
            self.assertEqual((desk.marking, desk.watched, desk.many), (marking, tuple(asked), len(asked)))
            for question, paper, word in zip(asked, papers, desk.report()):
                self.assertIs(claim_holds(marking, desk.claim(question), desk.paper(question)), True)
                self.assertIs(claim_holds(marking, desk.claim(question), paper), True)
                self.assertIn(word, ("kept", "renewed", "changed"))


if __name__ == "__main__":
    unittest.main()

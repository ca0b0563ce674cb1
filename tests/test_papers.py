import unittest
from itertools import product

from asking import (
    ASKED, GREATER, NONSENSE, QUESTION_WORDS, claims_of, expected_claim, expected_holds, expected_question, papers_for,
    questions, some_questions, true_claim,
)
from cases import Case
from changes import changes, deep
from samples import FOUR, NOT_INTEGERS, NOT_TUPLES, Plain
from markfilters.claims import answer_of
from markfilters.errors import InvalidQuestion
from markfilters.markings import Marking
from markfilters.papers import claim_holds, paper_of

ODD_PAPERS = NOT_TUPLES + NOT_INTEGERS + [
    (), (0,), (1,), (-1,), (0, 1), (-1, -1), ((),), ((0,), 1), ((), ()), (None,), ("",), [-1], [()], deep(60),
    (0,) * 30000, (-1,) * 7, 2, 3, 4, 5, 6, 7, 8, 100, 999999999999, -2, ((0,), (1,)), FOUR, (FOUR,),
]


class PapersCase(Case):
    def told(self, marking, claim, paper, expected):
        with self.subTest(marks=marking.marks, claim=claim, paper=paper):
            self.assertIs(claim_holds(marking, claim, paper), expected)

    def as_expected(self, marking, claim, paper):
        self.told(marking, claim, paper, expected_holds(marking, claim, paper))

    def plain_within(self, told):
        """What is told is of plain tuples and plain integers."""
        self.assertIn(type(told), (tuple, int))
        if isinstance(told, tuple):
            for member in told:
                self.plain_within(member)


class PaperOfTest(PapersCase):
    def holds_for_the_true_one_alone(self, marking, question):
        paper = paper_of(marking, question)
        self.plain_within(paper)
        true = true_claim(marking, question)
        self.told(marking, true, paper, True)
        self.assertIs(expected_holds(marking, true, paper), True)
        for claim in claims_of(marking, question):
            if claim != true:
                self.told(marking, claim, paper, False)

    def test_all_questions(self):
        words = set()
        for marking in ASKED:
            for question in questions(marking):
                self.holds_for_the_true_one_alone(marking, question)
                words.add(true_claim(marking, question)[0])
        self.assertEqual(words, set(QUESTION_WORDS))

    def test_questions_of_greater_markings(self):
        for marking in GREATER:
            for question in some_questions(marking, 60, 41):
                self.holds_for_the_true_one_alone(marking, question)

    def test_where_there_is_one_paper_only(self):
        self.assertEqual(paper_of(FOUR, ("wrong", (0, 3))), (1, 1))
        self.assertEqual(paper_of(FOUR, ("wrong", (0, 1, 3))), (-1,))
        self.assertEqual(paper_of(FOUR, ("wrong", (0, 1, 2, 3))), ())
        self.assertEqual(paper_of(FOUR, ("meets", (0,), (1,))), ())
        self.assertEqual(paper_of(FOUR, ("meets", (0, 1), (0, 3))), (0,))
        self.assertEqual(paper_of(FOUR, ("meets", (0,), (2,))), 0)
        self.assertEqual(paper_of(FOUR, ("take", (0, 2), 2, (1,))), ())
        self.assertEqual(paper_of(FOUR, ("take", (0, 2), 2, (0,))), 0)
        self.assertEqual(paper_of(FOUR, ("free", 4)), ((),))
        self.assertEqual(paper_of(FOUR, ("cells",)), ((0, 1, 2), (0, 3), (1, 3)))
        self.assertEqual(paper_of(Marking(1, ((0,), (0,))), ("free", 0)), ((0, 0),))
        self.assertEqual(paper_of(Marking(2, ((0,), (0, 1))), ("free", 1)), ((1,), 0))

    def test_the_same_for_an_equal_marking_made_anew(self):
        for marking in ASKED + GREATER:
            for question in some_questions(marking, 20, 42):
                twin = Marking(marking.cells, marking.marks)
                paper = paper_of(marking, question)
                self.assertEqual(paper_of(twin, tuple(list(question))), paper)
                self.assertEqual(paper_of(marking, question), paper)
                self.told(twin, answer_of(twin, question), paper, True)

    def test_no_questions(self):
        for marking in ASKED + GREATER:
            for value in NONSENSE:
                if not expected_question(marking, value):
                    self.refused(InvalidQuestion, value, paper_of, marking, value)
        for value in [("wrong", (4,)), ("free", 5), ("cells", 3), ("take", (0,), 0, (1,)), ("safe", (0,), 0, ())]:
            self.refused(InvalidQuestion, value, paper_of, FOUR, value)
        question = ("cells",)
        self.refused(InvalidQuestion, question, paper_of, Marking(1, ((0,),) * 5), question)

    def test_changed_at_one_place(self):
        for marking in (FOUR, GREATER[0]):
            for question in some_questions(marking, 3, 43):
                for value in changes(question):
                    if not expected_question(marking, value):
                        self.refused(InvalidQuestion, value, paper_of, marking, value)

    def test_by_name(self):
        self.assertEqual(paper_of(question=("wrong", (0, 3)), marking=FOUR), (1, 1))

    def test_tuples_of_their_own_class(self):
        for question in [("wrong", Plain((0,))), ("take", Plain((0, 2)), 2, Plain((0,))), ("meets", Plain((0,)), ())]:
            self.plain_within(paper_of(FOUR, Plain(question)))


class ClaimHoldsTest(PapersCase):
    def test_examples(self):
        self.told(FOUR, ("wrong", (0, 1), 1), (-1, 2), True)
        self.told(FOUR, ("wrong", (0, 1), 1), (-1, 3), True)
        self.told(FOUR, ("wrong", (0, 1), 2), (-1, 2), False)
        self.told(FOUR, ("wrong", (0, 1), 2), (-1, -1), False)
        self.told(FOUR, ("wrong", (0, 1), 0), (0, 2), False)
        self.told(FOUR, ("strange", (0,), (2,)), 0, True)
        self.told(FOUR, ("strange", (0,), (2,)), 1, False)
        self.told(FOUR, ("meets", (0, 2), (2, 3)), (2, 2), True)
        self.told(FOUR, ("meets", (0, 1, 2), (0, 2)), (0, 2), True)
        self.told(FOUR, ("meets", (0, 1, 2), (0, 2)), (2, 2), True)
        self.told(FOUR, ("meets", (0, 1, 2), (0, 2)), (0, 1), False)
        self.told(FOUR, ("safe", (0, 2), 2, (1,)), (), True)
        self.told(FOUR, ("safe", (0, 2), 2, (0,)), (), False)
        self.told(FOUR, ("lost", (0, 2), 2, (0,)), 0, True)
        self.told(FOUR, ("lost", (0, 2), 2, (0,)), 2, False)
        self.told(FOUR, ("fails", 1), ((2,), 0), True)
        self.told(FOUR, ("fails", 1), ((2,), 1), True)
        self.told(FOUR, ("fails", 2), ((2, 3), 0), True)
        self.told(FOUR, ("fails", 1), ((2, 3), 0), False)
        self.told(FOUR, ("fails", 1), ((2,), 2), False)
        self.told(FOUR, ("cells", 3), ((0, 1, 2), (0, 3), (1, 3)), True)
        self.told(FOUR, ("cells", 4), ((0, 1, 2), (0, 3), (1, 3)), False)

    def test_papers_of_own_making_of_all_forms(self):
        held = {}
        for marking in ASKED:
            for question in questions(marking):
                for claim in claims_of(marking, question):
                    for paper in papers_for(marking, claim):
                        expected = expected_holds(marking, claim, paper)
                        self.assertIs(claim_holds(marking, claim, paper), expected, (marking.marks, claim, paper))
                        held.setdefault((claim[0], claim, expected), []).append(paper)
        # Of each kind some claim has several papers, but where just one paper is let.
        several = {word for (word, _, expected), papers in held.items() if expected and len(set(papers)) > 1}
        self.assertLessEqual({"wrong", "meets", "strange", "lost", "free", "fails"}, several)
        # Where "meets" is false some cell has no key that may be told for it.
        self.assertEqual({word for word, _, expected in held if not expected}, set(QUESTION_WORDS) - {"meets"})

    def test_papers_for_greater_markings(self):
        for marking in GREATER:
            for question in some_questions(marking, 25, 44):
                for claim in claims_of(marking, question)[:8]:
                    for paper in papers_for(marking, claim)[:150]:
                        self.as_expected(marking, claim, paper)

    def test_each_changed_at_one_place(self):
        for marking in ASKED + GREATER[:1]:
            for question in some_questions(marking, 6, 45):
                true = true_claim(marking, question)
                for paper in [paper_of(marking, question)] + papers_for(marking, true)[-2:]:
                    for value in changes(paper):
                        for claim in [true] + claims_of(marking, question)[:2]:
                            self.as_expected(marking, claim, value)

    def test_a_paper_of_one_minus_1_more(self):
        # The item 3 is said no by the keys (0, 1): -1 for it is wrong, whatever number is told.
        for paper in [(-1, -1), (2, -1), (-1, 0), (-1, 1), (2, 3), (3, -1), (-1, 4)]:
            for many in range(4):
                self.told(FOUR, ("wrong", (0, 1), many), paper, False)

    def test_no_paper_holds_for_what_is_false(self):
        for marking in ASKED[:4]:
            many = len(marking.marks)
            for question in some_questions(marking, 14, 46):
                for claim in claims_of(marking, question)[:6]:
                    if claim != true_claim(marking, question):
                        places = many if claim[0] == "wrong" else min(marking.cells, 3)
                        papers = [paper for size in range(places + 1) for paper in product(range(-1, 4), repeat=size)]
                        papers += list(range(-1, 9)) + papers_for(marking, claim)
                        for paper in papers:
                            self.assertIs(claim_holds(marking, claim, paper), False, (marking.marks, claim, paper))

    def test_each_claim_has_a_paper_exactly_if_it_is_true(self):
        for marking in ASKED:
            for question in questions(marking):
                for claim in claims_of(marking, question):
                    some = [paper for paper in papers_for(marking, claim) if claim_holds(marking, claim, paper)]
                    self.assertIs(some != [], claim == true_claim(marking, question))

    def test_other_kinds_of_papers(self):
        for marking in ASKED + GREATER:
            for question in some_questions(marking, 3, 47):
                for claim in claims_of(marking, question)[:3]:
                    for paper in ODD_PAPERS:
                        self.as_expected(marking, claim, paper)

    def test_bools_are_no_integers(self):
        marking = Marking(2, ((0, 1), (0,), (1,), (0, 1)))
        self.told(marking, ("wrong", (1,), 0), (1, 1, 1), True)
        self.told(marking, ("wrong", (1,), 0), (1, 1, True), False)
        self.told(marking, ("wrong", (2,), 0), (0, False, 0), False)
        self.told(marking, ("meets", (0, 1), (0, 1)), (1, 0), True)
        self.told(marking, ("meets", (0, 1), (0, 1)), (True, 0), False)
        self.told(marking, ("meets", (0, 1), (0, 1)), (1, False), False)
        self.told(marking, ("strange", (0,), (3,)), 1, True)
        self.told(marking, ("strange", (0,), (3,)), True, False)
        self.told(marking, ("strange", (0,), (3,)), False, False)
        self.told(marking, ("lost", (0, 1), 0, (0,)), 1, True)
        self.told(marking, ("lost", (0, 1), 0, (0,)), True, False)
        self.told(marking, ("fails", 1), ((0,), 1), True)
        self.told(marking, ("fails", 1), ((0,), True), False)
        self.told(marking, ("fails", 1), ((False,), 1), False)
        self.told(marking, ("safe", (1,), 1, (0,)), (), True)
        self.told(marking, ("safe", (1,), 1, (0,)), False, False)
        self.told(Marking(1, ((0,), (0,))), ("free", 0), ((0, 0),), True)
        self.told(Marking(1, ((0,), (0,))), ("free", 0), ((0, False),), False)
        self.told(Marking(2, ((0,), (1,))), ("cells", 2), ((0,), (1,)), True)
        self.told(Marking(2, ((0,), (1,))), ("cells", 2), ((0,), (True,)), False)
        self.told(Marking(2, ((0,), (1,))), ("cells", 2), ((False,), (1,)), False)

    def test_lists_are_no_papers(self):
        for marking in ASKED:
            for question in some_questions(marking, 8, 48):
                paper = paper_of(marking, question)
                if isinstance(paper, tuple):
                    self.told(marking, answer_of(marking, question), list(paper), False)
                else:
                    self.told(marking, answer_of(marking, question), [paper], False)
                    self.told(marking, answer_of(marking, question), (paper,), False)

    def test_papers_of_other_questions(self):
        for marking in ASKED:
            asked = list(some_questions(marking, 9, 49))
            papers = [paper_of(marking, question) for question in asked]
            for question in asked:
                for claim in claims_of(marking, question)[:4]:
                    for paper in papers:
                        self.as_expected(marking, claim, paper)

    def test_papers_of_other_markings(self):
        for marking, other in product(ASKED, repeat=2):
            for question in some_questions(other, 7, 50):
                claim, paper = answer_of(other, question), paper_of(other, question)
                if expected_claim(marking, claim):
                    self.as_expected(marking, claim, paper)
                else:
                    self.told(marking, claim, paper, False)

    def test_claims_of_no_form(self):
        for marking in ASKED + GREATER:
            for claim in NONSENSE:
                if not expected_claim(marking, claim):
                    for paper in [(), 0, (0,), (-1,), None, ((),)]:
                        self.told(marking, claim, paper, False)
        self.told(Marking(1, ((0,),) * 5), ("cells", 1), ((),), False)
        self.told(FOUR, ("wrong", (0, 1), True), (-1, 2), False)
        self.told(FOUR, ["wrong", (0, 1), 1], (-1, 2), False)
        self.told(FOUR, ("wrong", [0, 1], 1), (-1, 2), False)
        self.told(FOUR, ("wrong", (0, True), 1), (-1, 2), False)
        self.told(FOUR, ("fails", True), ((2,), 0), False)
        self.told(FOUR, ("cells", 3.0), ((0, 1, 2), (0, 3), (1, 3)), False)

    def test_questions_are_no_claims(self):
        for question in questions(FOUR):
            if question[0] not in ("meets", "free"):
                self.told(FOUR, question, paper_of(FOUR, question), False)

    def test_claims_changed_at_one_place(self):
        for marking in (FOUR, GREATER[0]):
            for question in some_questions(marking, 4, 51):
                paper = paper_of(marking, question)
                for claim in changes(answer_of(marking, question)):
                    expected = expected_claim(marking, claim) and expected_holds(marking, claim, paper)
                    self.told(marking, claim, paper, expected)

    def test_by_name(self):
        self.assertIs(claim_holds(paper=0, claim=("strange", (0,), (2,)), marking=FOUR), True)
        self.assertIs(claim_holds(paper=1, claim=("strange", (0,), (2,)), marking=FOUR), False)

    def test_arguments_are_not_changed(self):
        claim, paper = ["wrong", [0], 1], [-1, [2]]
        claim_holds(FOUR, claim, paper), claim_holds(FOUR, ("wrong", (0, 1), 1), paper)
        claim_holds(FOUR, claim, (-1, 2))
        self.assertEqual((claim, paper), (["wrong", [0], 1], [-1, [2]]))


if __name__ == "__main__":
    unittest.main()

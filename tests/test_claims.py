import unittest
from itertools import product

from asking import (
    ASKED, GREATER, NONSENSE, QUESTION_WORDS, claims_of, every_keys, expected_claim, expected_question, questions,
    some_questions, true_claim, yeses_of,
)
from cases import Case
from changes import changes, same
from samples import FOUR, Plain, tuples_below
from markfilters.claims import answer_of, is_claim, is_question, question_of
from markfilters.errors import InvalidClaim, InvalidQuestion
from markfilters.markings import Marking

# None of them is a question for FOUR.
NO_QUESTIONS = [
    ("wrong", (4,)), ("wrong", (1, 0)), ("wrong", (0, 0)), ("wrong", (0,), 0), ("wrong", (True,)), ("wrong", 0),
    ("meets", (0,)), ("meets", (0,), (4,)), ("meets", (4,), (0,)), ("meets", (0,), (1,), ()), ("meets", (1, 0), ()),
    ("strange", (0,), (2,)), ("safe", (0,), 0, ()), ("lost", (0,), 0, ()), ("fails", 1),
    ("take", (0,), 1, ()), ("take", (), 0, ()), ("take", (0, 4), 0, ()), ("take", (0,), 0, (1,)),
    ("take", (2,), 2, (1, 0)), ("take", (2,), 2, (0, 0)), ("take", (2,), 2, (0, 2)), ("take", (0, 1), True, ()),
    ("take", (1,), 1, (True,)), ("take", (0,), 0, [0]), ("take", (0,), 0, 0), ("take", (0,), (0,), (0,)),
    ("take", (0,), 0, (0,), 0), ("take", (0,), -1, ()), ("take", (0, 1, 2, 3), 3, (3, 4)), ("take", (3,), -1, (2,)),
    ("free", 5), ("free", -1), ("free", 1, 1), ("free", 999999999999), ("cells", 3), ("cells", 4),
]

# None of them is a claim for FOUR.
NO_CLAIMS = [
    ("wrong", (0,)), ("wrong", (4,), 0), ("wrong", (1, 0), 0), ("wrong", (0,), -1), ("wrong", (0,), True),
    ("wrong", (0,), None), ("wrong", (0,), 0, 0), ("wrong", (0,), (0,)), ("wrong", (0,), "0"), ("wrong", 0, (0,)),
    ("meets", (0,)), ("meets", (0,), (1,), 0), ("strange", (0,), (4,)), ("strange", (4,), (0,)), ("strange", (0,)),
    ("take", (0,), 0, ()), ("safe", (0,), 1, ()), ("safe", (0,), 0, (1,)), ("lost", (2,), 2, (1, 0)),
    ("lost", (0,), 0), ("lost", (0,), 0, (0,), 0), ("safe", (0, 1), True, ()), ("safe", (1,), 1, (True,)),
    ("free", 5), ("fails", 5), ("fails", -1), ("fails", 1, 1), ("fails", False), ("cells",), ("cells", -1),
    ("cells", True), ("cells", 3, 3), ("cells", None), ("cell", 3), (("cells",), 3), ("no", (0,), 0),
]


class ClaimsCase(Case):
    def told(self, call, marking, value, expected):
        with self.subTest(call=call, marks=marking.marks, value=value):
            self.assertIs(call(marking, value), expected)

    def plain_within(self, told):
        """What is told is of plain tuples, plain strings and plain integers."""
        self.assertIn(type(told), (tuple, str, int))
        if isinstance(told, tuple):
            for member in told:
                self.plain_within(member)


class IsQuestionTest(ClaimsCase):
    def test_all_questions(self):
        for marking in ASKED:
            for question in questions(marking):
                self.told(is_question, marking, question, True)

    def test_questions_of_greater_markings(self):
        for marking in GREATER:
            for question in some_questions(marking, 60, 21):
                self.told(is_question, marking, question, True)

    def test_of_other_markings(self):
        for marking, other in product(ASKED + GREATER, repeat=2):
            for question in some_questions(other, 25, 22):
                self.told(is_question, marking, question, expected_question(marking, question))

    def test_changed_at_one_place(self):
        for marking in ASKED + GREATER:
            for question in some_questions(marking, 5, 23):
                for value in changes(question):
                    self.told(is_question, marking, value, expected_question(marking, value))

    def test_ends(self):
        for marking in ASKED + GREATER:
            many = len(marking.marks)
            self.told(is_question, marking, ("wrong", (many - 1,)), True)
            self.told(is_question, marking, ("wrong", (many,)), False)
            self.told(is_question, marking, ("wrong", tuple(range(many))), True)
            self.told(is_question, marking, ("wrong", tuple(range(many + 1))), False)
            self.told(is_question, marking, ("meets", (), (many,)), False)
            self.told(is_question, marking, ("meets", (many,), ()), False)
            self.told(is_question, marking, ("free", 0), True)
            self.told(is_question, marking, ("free", many), True)
            self.told(is_question, marking, ("free", many + 1), False)
            self.told(is_question, marking, ("take", tuple(range(many)), many - 1, marking.marks[-1]), True)
            self.told(is_question, marking, ("take", tuple(range(many)), many, ()), False)
            for cell in range(marking.cells + 1):
                expected = cell in marking.marks[0]
                self.told(is_question, marking, ("take", (0,), 0, (cell,)), expected)

    def test_cells_for_up_to_4_items(self):
        for many in range(1, 8):
            marking = Marking(2, ((0,), (1,), (0, 1), (0,), (0,), (1,), (1,))[:many])
            self.told(is_question, marking, ("cells",), many <= 4)
            self.told(is_question, marking, ("cells", 1), False)

    def test_claims_are_no_questions(self):
        for marking in ASKED:
            for question in some_questions(marking, 10, 24):
                for claim in claims_of(marking, question):
                    if claim[0] not in ("meets", "free"):
                        self.told(is_question, marking, claim, False)

    def test_none(self):
        for marking in ASKED + GREATER:
            for value in NONSENSE:
                self.told(is_question, marking, value, expected_question(marking, value))
        for value in NO_QUESTIONS:
            self.told(is_question, FOUR, value, False)

    def test_by_name(self):
        self.assertIs(is_question(value=("free", 1), marking=FOUR), True)
        self.assertIs(is_question(value=("free", 5), marking=FOUR), False)


class IsClaimTest(ClaimsCase):
    def test_all_claims(self):
        for marking in ASKED:
            for question in questions(marking):
                for claim in claims_of(marking, question):
                    self.told(is_claim, marking, claim, True)

    def test_claims_of_greater_markings(self):
        for marking in GREATER:
            for question in some_questions(marking, 40, 25):
                for claim in claims_of(marking, question):
                    self.told(is_claim, marking, claim, True)

    def test_of_other_markings(self):
        for marking, other in product(ASKED + GREATER, repeat=2):
            for question in some_questions(other, 15, 26):
                for claim in claims_of(other, question):
                    self.told(is_claim, marking, claim, expected_claim(marking, claim))

    def test_changed_at_one_place(self):
        for marking in ASKED + GREATER:
            for question in some_questions(marking, 4, 27):
                for claim in claims_of(marking, question)[:2]:
                    for value in changes(claim):
                        self.told(is_claim, marking, value, expected_claim(marking, value))

    def test_cells_for_up_to_4_items(self):
        for many in range(1, 8):
            marking = Marking(2, ((0,), (1,), (0, 1), (0,), (0,), (1,), (1,))[:many])
            for number in [0, 1, 2, 7, 8, 100, 999999999999]:
                self.told(is_claim, marking, ("cells", number), many <= 4)
            self.told(is_claim, marking, ("cells",), False)

    def test_any_number_may_be_told(self):
        for number in [0, 1, 7, 8, 9, 999999999999]:
            self.told(is_claim, FOUR, ("wrong", (0,), number), True)
        for number in [-1, -999999999999, True, False, None, "1", (1,), [1], 1.0]:
            self.told(is_claim, FOUR, ("wrong", (0,), number), False)
            self.told(is_claim, FOUR, ("cells", number), False)

    def test_questions_are_no_claims(self):
        for marking in ASKED:
            for question in questions(marking):
                self.told(is_claim, marking, question, question[0] in ("meets", "free"))

    def test_none(self):
        for marking in ASKED + GREATER:
            for value in NONSENSE:
                self.told(is_claim, marking, value, expected_claim(marking, value))
        for value in NO_CLAIMS:
            self.told(is_claim, FOUR, value, False)

    def test_by_name(self):
        self.assertIs(is_claim(value=("fails", 1), marking=FOUR), True)
        self.assertIs(is_claim(value=("fails", 5), marking=FOUR), False)


class AnswerOfTest(ClaimsCase):
    def test_examples(self):
        self.assertEqual(answer_of(FOUR, ("wrong", (0, 1))), ("wrong", (0, 1), 1))
        self.assertEqual(answer_of(FOUR, ("meets", (0,), (2,))), ("strange", (0,), (2,)))
        self.assertEqual(answer_of(FOUR, ("meets", (0,), (1,))), ("meets", (0,), (1,)))
        self.assertEqual(answer_of(FOUR, ("take", (0, 2), 2, (1,))), ("safe", (0, 2), 2, (1,)))
        self.assertEqual(answer_of(FOUR, ("take", (0, 2), 2, (0,))), ("lost", (0, 2), 2, (0,)))
        self.assertEqual(answer_of(FOUR, ("free", 1)), ("fails", 1))
        self.assertEqual(answer_of(FOUR, ("free", 0)), ("free", 0))
        self.assertEqual(answer_of(FOUR, ("cells",)), ("cells", 3))

    def test_all_questions(self):
        words = set()
        for marking in ASKED:
            for question in questions(marking):
                told = answer_of(marking, question)
                self.plain_within(told)
                self.assertTrue(same(told, true_claim(marking, question)))
                words.add(told[0])
        self.assertEqual(words, set(QUESTION_WORDS))

    def test_questions_of_greater_markings(self):
        for marking in GREATER:
            for question in some_questions(marking, 80, 28):
                told = answer_of(marking, question)
                self.plain_within(told)
                self.assertTrue(same(told, true_claim(marking, question)))

    def test_the_item_itself_is_not_lost(self):
        marking = Marking(4, ((0, 1), (2, 3)))
        self.assertEqual(answer_of(marking, ("take", (0, 1), 0, (0, 1)))[0], "safe")
        self.assertEqual(answer_of(marking, ("take", (0,), 0, (0, 1)))[0], "safe")

    def test_the_fewest_cells(self):
        for many in range(1, 4):
            fewest = {}
            for cells in range(1, 5):
                for marks in product(tuples_below(cells)[1:], repeat=many):
                    fewest.setdefault(tuple(yeses_of(Marking(cells, marks))), cells)
            for telling, cells in fewest.items():
                marks = [tuple(cell for cell, yes in enumerate(telling) if item not in yes) for item in range(many)]
                marking = Marking(len(telling), tuple(marks))
                self.assertEqual(answer_of(marking, ("cells",)), ("cells", cells))

    def test_no_questions(self):
        for marking in ASKED + GREATER:
            for value in NONSENSE:
                if not expected_question(marking, value):
                    self.refused(InvalidQuestion, value, answer_of, marking, value)
        for value in NO_QUESTIONS:
            self.refused(InvalidQuestion, value, answer_of, FOUR, value)
        question = ("cells",)
        self.refused(InvalidQuestion, question, answer_of, Marking(1, ((0,),) * 5), question)

    def test_changed_at_one_place(self):
        for marking in (FOUR, GREATER[0]):
            for question in some_questions(marking, 3, 29):
                for value in changes(question):
                    if expected_question(marking, value):
                        self.assertTrue(same(answer_of(marking, value), true_claim(marking, value)))
                    else:
                        self.refused(InvalidQuestion, value, answer_of, marking, value)

    def test_by_name(self):
        self.assertEqual(answer_of(question=("free", 1), marking=FOUR), ("fails", 1))

    def test_tuples_of_their_own_class(self):
        told = answer_of(FOUR, Plain(("take", Plain((0, 2)), 2, Plain((1,)))))
        self.plain_within(told)
        self.assertEqual(told, ("safe", (0, 2), 2, (1,)))


class QuestionOfTest(ClaimsCase):
    def test_examples(self):
        self.assertEqual(question_of(FOUR, ("wrong", (0, 1), 5)), ("wrong", (0, 1)))
        self.assertEqual(question_of(FOUR, ("strange", (0,), (1,))), ("meets", (0,), (1,)))
        self.assertEqual(question_of(FOUR, ("lost", (0, 2), 2, (1,))), ("take", (0, 2), 2, (1,)))
        self.assertEqual(question_of(FOUR, ("fails", 4)), ("free", 4))
        self.assertEqual(question_of(FOUR, ("cells", 0)), ("cells",))

    def test_all_claims(self):
        for marking in ASKED:
            for question in questions(marking):
                for claim in claims_of(marking, question):
                    told = question_of(marking, claim)
                    self.plain_within(told)
                    self.assertTrue(same(told, question))

    def test_the_answer_answers_the_question(self):
        for marking in ASKED + GREATER:
            for question in some_questions(marking, 30, 30):
                self.assertEqual(question_of(marking, answer_of(marking, question)), question)

    def test_no_claims(self):
        for marking in ASKED + GREATER:
            for value in NONSENSE:
                if not expected_claim(marking, value):
                    self.refused(InvalidClaim, value, question_of, marking, value)
        for value in NO_CLAIMS:
            self.refused(InvalidClaim, value, question_of, FOUR, value)
        claim = ("cells", 1)
        self.refused(InvalidClaim, claim, question_of, Marking(1, ((0,),) * 5), claim)

    def test_changed_at_one_place(self):
        for marking in (FOUR, GREATER[0]):
            for question in some_questions(marking, 2, 31):
                for claim in claims_of(marking, question)[:2]:
                    for value in changes(claim):
                        if not expected_claim(marking, value):
                            self.refused(InvalidClaim, value, question_of, marking, value)

    def test_by_name(self):
        self.assertEqual(question_of(claim=("fails", 1), marking=FOUR), ("free", 1))

    def test_tuples_of_their_own_class(self):
        told = question_of(FOUR, Plain(("wrong", Plain((0, 2)), 2)))
        self.plain_within(told)
        self.assertEqual(told, ("wrong", (0, 2)))


class BasicsTest(ClaimsCase):
    def test_equal_arguments_tell_equal_results(self):
        for marking in ASKED + GREATER:
            twin = Marking(marking.cells, marking.marks)
            for question in some_questions(marking, 10, 32):
                self.assertEqual(answer_of(marking, question), answer_of(twin, tuple(list(question))))

    def test_arguments_are_not_changed(self):
        for marking in ASKED:
            cells, marks = marking.cells, marking.marks
            for question in some_questions(marking, 5, 33):
                answer_of(marking, question)
            self.assertEqual((marking.cells, marking.marks), (cells, marks))
            self.assertEqual(every_keys(marking), tuples_below(len(marks)))
        value = ["wrong", [0]]
        is_question(FOUR, value), is_claim(FOUR, value)
        self.refused(InvalidQuestion, value, answer_of, FOUR, value)
        self.refused(InvalidClaim, value, question_of, FOUR, value)
        self.assertEqual(value, ["wrong", [0]])


if __name__ == "__main__":
    unittest.main()

import random
import unittest

from asking import ASKED, GREATER, NONSENSE, questions, some_questions
from cases import Case
from changes import changes, deep, same
from desks import Model
from samples import FOUR, MARKINGS, NOT_INTEGERS, NOT_TUPLES, Plain, not_ascending_below, tuples_below
from markfilters.claims import answer_of
from markfilters.desk import Desk, same_state
from markfilters.errors import (
    FilterError, InvalidItem, InvalidMark, InvalidNumber, InvalidQuestion, NothingToUndo, Undefined,
)
from markfilters.markings import Marking
from markfilters.papers import claim_holds, paper_of

WORDS = {"new", "none", "kept", "renewed", "changed"}
KEPT_AS = {NothingToUndo: "word", Undefined: "what"}

# Two cells in the only mark: of the one that paper_of tells, and of the other one, papers can be kept.
BOTH = Marking(2, ((0, 1),))
NO_KEYS = ("wrong", ())
TOLD = paper_of(BOTH, NO_KEYS)[0]
OTHER = 1 - TOLD


def led(marking, *deeds):
    """A new desk that is led through deeds, each a tuple of its name and its arguments."""
    desk = Desk(marking)
    for word, *arguments in deeds:
        getattr(desk, word)(*arguments)
    return desk


class DeskCase(Case):
    def seen(self, desk):
        """All that a desk shows but for what can be redone."""
        kept = [(desk.claim(question), desk.paper(question)) for question in desk.watched]
        return desk.marking.cells, desk.marking.marks, desk.watched, desk.many, desk.report(), tuple(kept)

    def shows(self, desk, cells, marks, watched, many, report):
        self.assertIs(type(desk.marking), Marking)
        self.assertEqual(self.seen(desk)[:5], (cells, marks, watched, many, report))

    def raises(self, kind, value, call, *arguments):
        with self.assertRaises(FilterError) as caught:
            call(*arguments)
        self.assertIs(type(caught.exception), kind)
        kept = getattr(caught.exception, KEPT_AS.get(kind, "value"))
        if kind in KEPT_AS:
            self.assertEqual(kept, value)
        else:
            self.assertIs(kept, value)

    def refuses(self, desk, kind, value, word, *arguments):
        """The deed is refused and changes nothing that the desk shows."""
        with self.subTest(word=word, arguments=arguments):
            before, marking = self.seen(desk), desk.marking
            self.raises(kind, value, getattr(desk, word), *arguments)
            self.assertEqual(self.seen(desk), before)
            self.assertIs(desk.marking, marking)

    def plain_within(self, told):
        self.assertIn(type(told), (tuple, str, int, type(None)))
        if isinstance(told, tuple):
            for member in told:
                self.plain_within(member)

    def as_model(self, desk, model):
        """The desk shows just what the model tells."""
        self.assertEqual(desk.marking, model.marking)
        self.assertTrue(same(desk.watched, tuple(model.watched)))
        self.assertIs(type(desk.many), int)
        self.assertEqual(desk.many, len(model.before))
        self.assertEqual(desk.report(), tuple(model.words))
        for question, (claim, paper) in zip(model.watched, model.kept):
            self.assertTrue(same(desk.claim(question), claim))
            self.assertTrue(same(desk.paper(question), paper))
            if claim is not None:
                self.assertIs(claim_holds(desk.marking, claim, paper), True)
        self.plain_within(self.seen(desk))


class NewTest(DeskCase):
    def test_shows_the_marking_and_nothing_else(self):
        for marking in MARKINGS:
            desk = Desk(marking)
            self.shows(desk, marking.cells, marking.marks, (), 0, ())
            self.assertEqual(desk.marking, marking)
            self.plain_within(self.seen(desk))

    def test_by_name(self):
        self.assertEqual(Desk(marking=FOUR).marking, FOUR)

    def test_nothing_to_undo_and_redo(self):
        desk = Desk(FOUR)
        self.refuses(desk, NothingToUndo, "undo", "undo")
        self.refuses(desk, NothingToUndo, "redo", "redo")

    def test_equal_to_itself_alone(self):
        one, other = Desk(FOUR), Desk(FOUR)
        self.assertIs(one == one, True)
        self.assertIs(one != one, False)
        for thing in [other, FOUR, None, 0, True, "", (), Desk, (FOUR,)]:
            self.assertIs(one == thing, False)
            self.assertIs(one != thing, True)

    def test_not_iterable(self):
        for desk in [Desk(FOUR), led(FOUR, ("watch", ("free", 1)))]:
            self.assertRaises(TypeError, iter, desk)
            self.assertRaises(TypeError, list, desk)
            with self.assertRaises(TypeError):
                0 in desk


class EditingTest(DeskCase):
    def test_add(self):
        desk = Desk(Marking(4, ((0,), (1,))))
        self.assertIsNone(desk.add((2, 3)))
        self.shows(desk, 4, ((0,), (1,), (2, 3)), (), 1, ())
        self.assertIsNone(desk.add(mark=(0,)))
        self.shows(desk, 4, ((0,), (1,), (2, 3), (0,)), (), 2, ())

    def test_add_up_to_7_items(self):
        for marking in MARKINGS:
            desk = Desk(marking)
            for many in range(len(marking), 7):
                desk.add((0,))
            marks = marking.marks + ((0,),) * (7 - len(marking))
            self.shows(desk, marking.cells, marks, (), 7 - len(marking), ())
            for mark in [(0,), tuple(range(marking.cells)), (), None, [0]]:
                self.refuses(desk, InvalidMark, mark, "add", mark)
            desk.drop(0)
            desk.add((0,))

    def test_add_no_mark(self):
        for marking in (FOUR, MARKINGS[0], MARKINGS[5]):
            desk = Desk(marking)
            for mark in not_ascending_below(marking.cells) + [(), deep(60)]:
                self.refuses(desk, InvalidMark, mark, "add", mark)

    def test_drop(self):
        desk = Desk(Marking(4, ((0,), (1,), (2,), (3,))))
        self.assertIsNone(desk.drop(1))
        self.shows(desk, 4, ((0,), (2,), (3,)), (), 1, ())
        self.assertIsNone(desk.drop(item=2))
        self.shows(desk, 4, ((0,), (2,)), (), 2, ())
        desk.drop(0)
        self.shows(desk, 4, ((2,),), (), 3, ())

    def test_drop_each_item(self):
        for marking in MARKINGS:
            for item in range(len(marking)):
                desk = Desk(marking)
                if len(marking) > 1:
                    desk.drop(item)
                    self.assertEqual(desk.marking.marks, marking.marks[:item] + marking.marks[item + 1:])

    def test_drop_the_only_item(self):
        desk = Desk(Marking(4, ((0, 2),)))
        self.refuses(desk, Undefined, "alone", "drop", 0)
        for item in [1, -1, True, False, None, "0", (0,), [0]]:
            self.refuses(desk, InvalidItem, item, "drop", item)

    def test_no_items(self):
        for marking in MARKINGS:
            desk = Desk(marking)
            many = len(marking)
            for item in [many, many + 1, -1, -many, 999999999999, -999999999999] + NOT_INTEGERS:
                self.refuses(desk, InvalidItem, item, "drop", item)
                self.refuses(desk, InvalidItem, item, "turn", item, (0,))

    def test_turn(self):
        desk = Desk(Marking(4, ((0,), (1,), (2,))))
        self.assertIsNone(desk.turn(1, (0, 3)))
        self.shows(desk, 4, ((0,), (0, 3), (2,)), (), 1, ())
        self.assertIsNone(desk.turn(mark=(1,), item=2))
        self.shows(desk, 4, ((0,), (0, 3), (1,)), (), 2, ())
        desk.turn(0, (0,))
        self.shows(desk, 4, ((0,), (0, 3), (1,)), (), 3, ())

    def test_turn_each_item(self):
        for marking in MARKINGS:
            for item in range(len(marking)):
                for mark in tuples_below(marking.cells)[1:][:40]:
                    desk = Desk(marking)
                    desk.turn(item, mark)
                    marks = marking.marks[:item] + (mark,) + marking.marks[item + 1:]
                    self.shows(desk, marking.cells, marks, (), 1, ())

    def test_turn_no_mark(self):
        for marking in (FOUR, MARKINGS[0], MARKINGS[1]):
            desk = Desk(marking)
            for mark in not_ascending_below(marking.cells) + [(), deep(60)]:
                self.refuses(desk, InvalidMark, mark, "turn", 0, mark)

    def test_turn_both_wrong_tells_of_the_item(self):
        desk = Desk(FOUR)
        for item in [4, -1, True, None, "0", [0]]:
            for mark in [(), None, (4,), [0], (1, 0), (True,)]:
                self.refuses(desk, InvalidItem, item, "turn", item, mark)

    def test_turn_of_the_seventh_item(self):
        desk = Desk(MARKINGS[7])
        desk.turn(6, (0, 7))
        self.assertEqual(desk.marking.marks[6], (0, 7))

    def test_widen(self):
        desk = Desk(Marking(3, ((0,), (1,))))
        for many, cells in enumerate([4, 8, 2, 2, 5, 3]):
            self.assertIsNone(desk.widen(cells))
            self.shows(desk, cells, ((0,), (1,)), (), many + 1, ())
        self.assertIsNone(desk.widen(cells=7))
        self.assertEqual(desk.marking.cells, 7)

    def test_widen_to_just_more_than_each_cell(self):
        for marking in MARKINGS:
            last = max(max(mark) for mark in marking.marks)
            for cells in range(last + 1, 9):
                desk = Desk(marking)
                desk.widen(cells)
                self.shows(desk, cells, marking.marks, (), 1, ())
            for cells in [*range(last + 1), -1, 9, 10, 999999999999, -999999999999] + NOT_INTEGERS:
                self.refuses(Desk(marking), InvalidNumber, cells, "widen", cells)

    def test_the_greatest_cell_may_be_in_any_mark(self):
        for marks in [((5,), (0,), (1,)), ((0,), (2, 5), (1,)), ((0,), (1, 2, 3), (1, 5))]:
            desk = Desk(Marking(7, marks))
            self.refuses(desk, InvalidNumber, 5, "widen", 5)
            desk.widen(6)
            self.assertEqual(desk.marking, Marking(6, marks))

    def test_marks_are_of_the_cells_there_are_now(self):
        desk = Desk(Marking(2, ((0,),)))
        mark = (5,)
        self.refuses(desk, InvalidMark, mark, "add", mark)
        desk.widen(6)
        desk.add(mark)
        desk.drop(1)
        desk.widen(5)
        self.refuses(desk, InvalidMark, mark, "turn", 0, mark)

    def test_fold(self):
        desk = Desk(Marking(8, ((0, 4), (1, 7), (2, 3))))
        self.assertIsNone(desk.fold())
        self.shows(desk, 4, ((0,), (1, 3), (2, 3)), (), 1, ())
        desk.fold()
        self.shows(desk, 2, ((0,), (1,), (0, 1)), (), 2, ())
        desk.fold()
        self.shows(desk, 1, ((0,), (0,), (0,)), (), 3, ())
        self.refuses(desk, Undefined, "odd", "fold")

    def test_fold_odd_cells(self):
        for cells in (1, 3, 5, 7):
            self.refuses(Desk(Marking(cells, ((0,),))), Undefined, "odd", "fold")
        for cells in (2, 4, 6, 8):
            desk = Desk(Marking(cells, ((cells - 1,),)))
            desk.fold()
            self.shows(desk, cells // 2, ((cells // 2 - 1,),), (), 1, ())

    def test_the_marking_that_was_read_stays(self):
        for deed in [("add", (1,)), ("drop", 0), ("turn", 0, (1, 2)), ("widen", 8), ("fold",)]:
            desk = Desk(FOUR)
            before = desk.marking
            getattr(desk, deed[0])(*deed[1:])
            self.assertEqual((before.cells, before.marks), (4, ((0,), (1,), (0, 1), (2, 3))))
            self.assertNotEqual(desk.marking, before)
            changed = desk.marking
            now = (changed.cells, changed.marks)
            desk.undo()
            self.assertEqual((changed.cells, changed.marks), now)
            self.assertEqual(desk.marking, before)

    def test_marks_of_their_own_class(self):
        desk = Desk(FOUR)
        desk.add(Plain((0, 1)))
        desk.turn(0, Plain((2,)))
        desk.watch(Plain(("wrong", Plain((0,)))))
        self.plain_within(self.seen(desk))
        self.assertEqual(desk.watched, (("wrong", (0,)),))


class UndoTest(DeskCase):
    def test_back_and_forth(self):
        desk = Desk(Marking(2, ((0,),)))
        desk.add((1,))
        desk.widen(3)
        desk.turn(0, (2,))
        self.assertIsNone(desk.undo())
        self.shows(desk, 3, ((0,), (1,)), (), 2, ())
        desk.undo()
        self.shows(desk, 2, ((0,), (1,)), (), 1, ())
        self.assertIsNone(desk.redo())
        self.shows(desk, 3, ((0,), (1,)), (), 2, ())
        desk.undo()
        desk.undo()
        self.shows(desk, 2, ((0,),), (), 0, ())
        self.refuses(desk, NothingToUndo, "undo", "undo")
        for many in range(3):
            desk.redo()
        self.shows(desk, 3, ((2,), (1,)), (), 3, ())
        self.refuses(desk, NothingToUndo, "redo", "redo")

    def test_a_new_deed_ends_what_can_be_redone(self):
        asked = ("free", 1)
        start = led(FOUR, ("watch", asked), ("watch", ("cells",))).marking
        for deed in [("add", (1,)), ("drop", 0), ("turn", 0, (0,)), ("turn", 0, (1, 2)), ("widen", 4), ("widen", 8),
                     ("fold",), ("watch", asked), ("watch", ("free", 2)), ("leave", asked)]:
            with self.subTest(deed=deed):
                desk = led(start, ("watch", asked), ("add", (0,)), ("add", (1,)), ("undo",), ("undo",))
                getattr(desk, deed[0])(*deed[1:])
                self.assertEqual(desk.many, 2)
                self.refuses(desk, NothingToUndo, "redo", "redo")
                desk.undo()
                self.assertEqual((desk.marking, desk.watched), (start, (asked,)))
                desk.redo()
                self.refuses(desk, NothingToUndo, "redo", "redo")

    def test_what_is_refused_does_not_end_what_can_be_redone(self):
        for word, arguments in [("add", ((),)), ("drop", (5,)), ("turn", (0, ())), ("widen", (1,)), ("watch", (0,)),
                                ("leave", (("free", 1),)), ("claim", (0,)), ("paper", (0,))]:
            desk = led(FOUR, ("add", (0,)), ("add", (1,)), ("undo",))
            self.assertRaises(FilterError, getattr(desk, word), *arguments)
            desk.redo()
            self.assertEqual(desk.marking.marks, FOUR.marks + ((0,), (1,)))
            self.refuses(desk, NothingToUndo, "redo", "redo")
        desk = led(Marking(3, ((0,),)), ("turn", 0, (1,)), ("turn", 0, (2,)), ("undo",))
        self.refuses(desk, Undefined, "odd", "fold")
        self.refuses(desk, Undefined, "alone", "drop", 0)
        desk.redo()
        self.assertEqual(desk.marking.marks, ((2,),))

    def test_undo_is_not_undone(self):
        desk = led(FOUR, ("add", (0,)), ("add", (1,)), ("undo",), ("undo",))
        self.refuses(desk, NothingToUndo, "undo", "undo")
        desk.redo()
        desk.undo()
        self.assertEqual(desk.marking, FOUR)

    def test_deeds_by_which_nothing_changes_are_undone_one_by_one(self):
        desk = led(FOUR, ("widen", 4), ("turn", 0, (0,)), ("watch", ("free", 1)), ("watch", ("free", 1)))
        self.assertEqual(desk.many, 4)
        for many, watched in [(3, (("free", 1),)), (2, ()), (1, ()), (0, ())]:
            desk.undo()
            self.shows(desk, 4, FOUR.marks, watched, many, ("kept",) * len(watched))
        for many in range(4):
            desk.redo()
        self.shows(desk, 4, FOUR.marks, (("free", 1),), 4, ("kept",))

    def test_watch_and_leave_are_undone(self):
        one, two = ("free", 1), ("wrong", (0,))
        desk = led(FOUR, ("watch", one), ("watch", two), ("leave", one))
        desk.undo()
        self.shows(desk, 4, FOUR.marks, (one, two), 2, ("new", "kept"))
        desk.undo()
        self.shows(desk, 4, FOUR.marks, (one,), 1, ("kept",))
        desk.redo()
        self.shows(desk, 4, FOUR.marks, (one, two), 2, ("kept", "new"))
        desk.redo()
        self.shows(desk, 4, FOUR.marks, (two,), 3, ("kept",))

    def test_60_deeds(self):
        desk = Desk(Marking(8, ((0,),)))
        marks = [((at % 8,),) for at in range(1, 61)]
        for mark in marks:
            desk.turn(0, *mark)
        self.shows(desk, 8, marks[-1], (), 60, ())
        for at in range(59, -1, -1):
            desk.undo()
            self.shows(desk, 8, marks[at - 1] if at else ((0,),), (), at, ())
        self.refuses(desk, NothingToUndo, "undo", "undo")
        for at in range(60):
            desk.redo()
            self.shows(desk, 8, marks[at], (), at + 1, ())
        self.refuses(desk, NothingToUndo, "redo", "redo")


class WatchTest(DeskCase):
    def test_all_questions(self):
        for marking in ASKED[:4]:
            for question in questions(marking):
                desk = Desk(marking)
                self.assertIsNone(desk.watch(question))
                self.shows(desk, marking.cells, marking.marks, (question,), 1, ("new",))
                self.assertEqual(desk.claim(question), answer_of(marking, question))
                self.assertEqual(desk.paper(question), paper_of(marking, question))

    def test_by_name(self):
        desk = Desk(FOUR)
        self.assertIsNone(desk.watch(question=("free", 1)))
        self.assertEqual(desk.claim(question=("free", 1)), ("fails", 1))
        self.assertEqual(desk.paper(question=("free", 1)), paper_of(FOUR, ("free", 1)))
        self.assertIsNone(desk.leave(question=("free", 1)))

    def test_behind_the_others(self):
        desk = Desk(FOUR)
        asked = [("free", 1), ("wrong", (0,)), ("cells",), ("free", 0), ("meets", (), (0,)), ("take", (0,), 0, ()),
                 ("meets", (0,), ()), ("wrong", ())]
        for at, question in enumerate(asked):
            desk.watch(question)
            self.assertEqual(desk.watched, tuple(asked[:at + 1]))
            self.assertEqual(desk.report(), ("kept",) * at + ("new",))

    def test_no_questions(self):
        for marking in (FOUR, GREATER[0], MARKINGS[0]):
            desk = led(marking, ("watch", ("free", 1)))
            for value in NONSENSE + [("free", 9), ("wrong", (7,)), ("safe", (0,), 0, ()), ("fails", 1), ("cells", 1)]:
                self.refuses(desk, InvalidQuestion, value, "watch", value)
        question = ("cells",)
        self.refuses(Desk(Marking(1, ((0,),) * 5)), InvalidQuestion, question, "watch", question)

    def test_twice(self):
        asked = [("free", 1), ("wrong", (0,)), ("cells",)]
        for question in asked:
            desk = led(FOUR, *[("watch", one) for one in asked])
            before = self.seen(desk)
            self.assertIsNone(desk.watch(tuple(list(question))))
            self.shows(desk, 4, FOUR.marks, tuple(asked), 4, ("kept", "kept", "kept"))
            self.assertEqual(self.seen(desk)[5], before[5])
            desk.undo()
            self.shows(desk, 4, FOUR.marks, tuple(asked), 3, ("kept", "kept", "kept"))
            desk.undo()
            self.shows(desk, 4, FOUR.marks, tuple(asked[:2]), 2, ("kept", "kept"))

    def test_twice_keeps_the_very_paper(self):
        desk = led(Marking(2, ((OTHER,),)), ("watch", NO_KEYS), ("turn", 0, (0, 1)), ("watch", NO_KEYS))
        self.assertEqual(desk.paper(NO_KEYS), (OTHER,))
        self.assertEqual(desk.report(), ("kept",))

    def test_what_is_watched_but_no_question_now(self):
        question = ("wrong", (3,))
        desk = led(FOUR, ("watch", ("free", 1)), ("watch", question), ("drop", 3))
        self.refuses(desk, InvalidQuestion, question, "watch", question)
        self.assertEqual(desk.report(), ("kept", "none"))

    def test_leave(self):
        asked = [("free", 1), ("wrong", (0,)), ("cells",)]
        for at, question in enumerate(asked):
            desk = led(FOUR, *[("watch", one) for one in asked])
            self.assertIsNone(desk.leave(tuple(list(question))))
            left = tuple(asked[:at] + asked[at + 1:])
            self.shows(desk, 4, FOUR.marks, left, 4, ("kept", "kept"))
            for word in ("leave", "claim", "paper"):
                self.refuses(desk, Undefined, "watched", word, question)
            for other in left:
                self.assertEqual(desk.claim(other), answer_of(FOUR, other))

    def test_leave_what_is_no_question_now(self):
        question = ("wrong", (3,))
        desk = led(FOUR, ("watch", question), ("drop", 3), ("leave", question))
        self.shows(desk, 4, FOUR.marks[:3], (), 3, ())

    def test_what_is_not_watched(self):
        asked = [("free", 1), ("wrong", (0, 1)), ("cells",), ("take", (0, 1), 1, (1,))]
        desk = led(FOUR, *[("watch", question) for question in asked])
        values = NONSENSE + [("free", 0), ("wrong", (0,)), ("meets", (0,), (1,)), ("fails", 1), ("free", 1, 1)]
        values += [value for question in asked for value in changes(question)]
        values += [tuple(asked), (asked[0],), list(asked[0]), desk.watched, FOUR, desk]
        for word in ("leave", "claim", "paper"):
            for value in values:
                if not any(same(value, question) for question in asked):
                    self.refuses(desk, Undefined, "watched", word, value)
        for value in NONSENSE:
            self.refuses(Desk(FOUR), Undefined, "watched", "leave", value)

    def test_a_bool_is_no_number(self):
        desk = led(FOUR, ("watch", ("free", 1)), ("watch", ("wrong", (0, 1))), ("watch", ("free", 0)))
        for value in [("free", True), ("free", False), ("wrong", (False, 1)), ("wrong", (0, True))]:
            for word in ("leave", "claim", "paper"):
                self.refuses(desk, Undefined, "watched", word, value)
            self.refuses(desk, InvalidQuestion, value, "watch", value)


def other_papers():
    """For each kind of claim two tuples (marking, item, mark, question).

    By the markings one paper holds each, unlike ones; where the items are turned to the marks both markings are equal
    and both papers hold, so that paper_of tells another one than just one of them.
    """
    yield [(Marking(2, ((cell,),)), 0, (0, 1), ("wrong", ())) for cell in (0, 1)]
    yield [(Marking(2, ((cell,),)), 0, (0, 1), ("free", 0)) for cell in (0, 1)]
    common = ("meets", (0, 1), (0, 1))
    yield [(Marking(2, ((0,), (1,))), 1, (0, 1), common), (Marking(2, ((1,), (0,))), 0, (0, 1), common)]
    strange = ("meets", (0,), (1,))
    yield [(Marking(2, ((0, 1), (cell,))), 1, (0, 1), strange) for cell in (0, 1)]
    taken = ("take", (0, 1, 2), 2, (0,))
    yield [(Marking(2, ((0,), (1,), (0,))), 1, (0,), taken), (Marking(2, ((1,), (0,), (0,))), 0, (0,), taken)]
    fails = ("free", 1)
    yield [(Marking(3, ((0, 1), (0,), (2,))), 2, (1,), fails), (Marking(3, ((0, 1), (2,), (1,))), 1, (0,), fails)]


class KeptTest(DeskCase):
    def test_kept_where_it_holds_still(self):
        desk = led(FOUR, ("watch", ("wrong", (0, 1))), ("watch", ("cells",)))
        before = self.seen(desk)[5]
        for deed in [("widen", 8), ("widen", 4), ("turn", 0, (0,)), ("watch", ("free", 0)), ("leave", ("free", 0))]:
            getattr(desk, deed[0])(*deed[1:])
            self.assertEqual(self.seen(desk)[5][:2], before)
            self.assertEqual(desk.report()[:2], ("kept", "kept"))

    def test_kept_also_where_paper_of_would_tell_another(self):
        for pair in other_papers():
            unlike = 0
            for marking, item, mark, question in pair:
                desk = led(marking, ("watch", question))
                paper = desk.paper(question)
                desk.turn(item, mark)
                unlike += not same(paper_of(desk.marking, question), paper)
                for word in [None, "undo", "redo"]:
                    if word:
                        getattr(desk, word)()
                    self.assertEqual(desk.report(), ("kept",))
                    self.assertTrue(same(desk.paper(question), paper))
                    self.assertEqual(desk.claim(question), answer_of(desk.marking, question))
            self.assertEqual(unlike, 1, pair)

    def test_told_anew_where_it_comes_to_be_watched_again(self):
        start = [("watch", NO_KEYS), ("turn", 0, (0, 1))]
        one = Marking(2, ((OTHER,),))
        desk = led(one, *start)
        self.assertEqual(desk.paper(NO_KEYS), (OTHER,))
        desk.leave(NO_KEYS)
        desk.watch(NO_KEYS)
        self.assertEqual((desk.paper(NO_KEYS), desk.report()), ((TOLD,), ("new",)))
        desk = led(one, *start, ("leave", NO_KEYS), ("undo",))
        self.assertEqual((desk.paper(NO_KEYS), desk.report()), ((TOLD,), ("new",)))
        desk = led(one, ("turn", 0, (0, 1)), ("watch", NO_KEYS), ("undo",), ("redo",))
        self.assertEqual((desk.paper(NO_KEYS), desk.report()), ((TOLD,), ("new",)))

    def test_renewed(self):
        desk = led(BOTH, ("watch", NO_KEYS))
        self.assertEqual((desk.claim(NO_KEYS), desk.paper(NO_KEYS)), (("wrong", (), 0), (TOLD,)))
        desk.turn(0, (OTHER,))
        self.assertEqual((desk.claim(NO_KEYS), desk.paper(NO_KEYS)), (("wrong", (), 0), (OTHER,)))
        self.assertEqual(desk.report(), ("renewed",))
        desk.undo()
        self.assertEqual((desk.paper(NO_KEYS), desk.report()), ((OTHER,), ("kept",)))
        desk.redo()
        self.assertEqual((desk.paper(NO_KEYS), desk.report()), ((OTHER,), ("kept",)))

    def test_a_paper_of_another_length_is_renewed(self):
        desk = led(Marking(2, ((0,),)), ("watch", NO_KEYS), ("add", (1,)))
        self.assertEqual((desk.paper(NO_KEYS), desk.report()), ((0, 1), ("renewed",)))

    def test_changed(self):
        question = ("wrong", (0,))
        desk = led(Marking(2, ((0,), (1,))), ("watch", question))
        self.assertEqual((desk.claim(question), desk.paper(question)), (("wrong", (0,), 0), (1,)))
        desk.turn(1, (0,))
        self.assertEqual((desk.claim(question), desk.paper(question)), (("wrong", (0,), 1), (-1,)))
        self.assertEqual(desk.report(), ("changed",))
        desk.undo()
        self.assertEqual((desk.claim(question), desk.paper(question)), (("wrong", (0,), 0), (1,)))
        self.assertEqual(desk.report(), ("changed",))

    def test_each_kind_of_claim_is_changed(self):
        marking = Marking(4, ((0,), (1,), (2, 3)))
        asked = [("wrong", (0,)), ("meets", (0,), (1,)), ("take", (0, 1), 0, (0,)), ("free", 1), ("cells",)]
        desk = led(marking, *[("watch", question) for question in asked])
        self.assertEqual([desk.claim(question)[0] for question in asked], ["wrong", "meets", "safe", "free", "cells"])
        desk.turn(1, (0,))
        self.assertEqual([desk.claim(question)[0] for question in asked], ["wrong", "strange", "lost", "fails", "cells"])
        self.assertEqual(desk.report(), ("changed",) * 5)
        for question in asked:
            self.assertEqual(desk.claim(question), answer_of(desk.marking, question))
            self.assertEqual(desk.paper(question), paper_of(desk.marking, question))

    def test_none_and_a_question_again(self):
        question = ("wrong", (1,))
        desk = led(Marking(2, ((0,), (1,))), ("watch", question), ("drop", 1))
        for word in [None, "undo", "redo"]:
            if word:
                getattr(desk, word)()
            if word == "undo":
                self.assertEqual(desk.claim(question), ("wrong", (1,), 0))
                self.assertEqual(desk.paper(question), (0,))
                self.assertEqual(desk.report(), ("changed",))
            else:
                self.assertIsNone(desk.claim(question))
                self.assertIsNone(desk.paper(question))
                self.assertEqual(desk.report(), ("none",))
        desk.widen(3)
        self.assertEqual(desk.report(), ("none",))
        desk.add((0, 1))
        self.assertEqual((desk.claim(question), desk.paper(question)), (("wrong", (1,), 1), (-1,)))
        self.assertEqual(desk.report(), ("changed",))

    def test_what_was_kept_is_forgotten_where_it_is_none(self):
        question = ("wrong", (1,))
        told = paper_of(Marking(3, ((0, 1), (2,))), question)
        for cell in (0, 1):
            for between in [("drop", 1), ("add", (2,))], [("drop", 1), ("undo",)]:
                # Ahead of item 1 being taken out the paper of one of the two cells is not that of paper_of.
                desk = led(Marking(3, ((cell,), (2,))), ("watch", question), ("turn", 0, (0, 1)))
                self.assertEqual((desk.paper(question), desk.report()), ((cell,), ("kept",)))
                for word, *arguments in between:
                    getattr(desk, word)(*arguments)
                self.assertEqual((desk.paper(question), desk.report()), (told, ("changed",)))

    def test_cells_is_no_question_of_5_items(self):
        desk = led(FOUR, ("watch", ("cells",)), ("watch", ("free", 1)))
        desk.add((0, 2))
        self.assertEqual((desk.claim(("cells",)), desk.paper(("cells",))), (None, None))
        self.assertEqual(desk.report()[0], "none")
        desk.drop(4)
        self.assertEqual(desk.claim(("cells",)), ("cells", 3))
        self.assertEqual(desk.report()[0], "changed")

    def test_items_that_get_other_numbers_leave_questions_as_they_are(self):
        question = ("wrong", (1,))
        desk = led(Marking(3, ((0,), (1,), (1,))), ("watch", question))
        self.assertEqual(desk.claim(question), ("wrong", (1,), 1))
        desk.drop(0)
        self.assertEqual(desk.watched, (question,))
        self.assertEqual(desk.claim(question), ("wrong", (1,), 1))
        desk.drop(0)
        self.assertIsNone(desk.claim(question))

    def test_a_take_that_is_none_where_the_mark_is_another(self):
        question = ("take", (0, 1), 0, (1,))
        desk = led(Marking(3, ((0, 1), (2,))), ("watch", question))
        self.assertEqual((desk.claim(question), desk.paper(question)), (("safe", (0, 1), 0, (1,)), ()))
        desk.turn(0, (0, 2))
        self.assertEqual((desk.claim(question), desk.paper(question)), (None, None))
        self.assertEqual(desk.report(), ("none",))
        desk.turn(0, (1,))
        self.assertEqual((desk.claim(question), desk.paper(question)), (("safe", (0, 1), 0, (1,)), ()))
        self.assertEqual(desk.report(), ("changed",))
        desk.turn(1, (1,))
        self.assertEqual((desk.claim(question), desk.paper(question)), (("lost", (0, 1), 0, (1,)), 1))

    def test_new_as_none(self):
        # By the redone leave it is watched no longer; undone, it is watched where it is no question.
        question = ("wrong", (1,))
        desk = led(Marking(2, ((0,), (1,))), ("watch", question), ("drop", 1), ("leave", question), ("undo",))
        self.assertEqual((desk.claim(question), desk.paper(question)), (None, None))
        self.assertEqual(desk.report(), ("new",))
        desk.watch(("free", 0))
        self.assertEqual(desk.report(), ("none", "new"))
        desk.undo()
        desk.undo()
        self.assertEqual(desk.report(), ("changed",))
        self.assertEqual(desk.claim(question), ("wrong", (1,), 0))

    def test_reports_of_other_deeds(self):
        desk = Desk(FOUR)
        self.assertEqual(desk.report(), ())
        desk.add((0,))
        self.assertEqual(desk.report(), ())
        desk.watch(("free", 1))
        self.assertEqual(desk.report(), ("new",))
        self.assertEqual(desk.report(), ("new",))
        desk.leave(("free", 1))
        self.assertEqual(desk.report(), ())

    def test_what_is_refused_leaves_the_report(self):
        desk = led(FOUR, ("watch", ("free", 1)))
        for word, arguments in [("add", ((),)), ("drop", (4,)), ("turn", (0, ())), ("widen", (1,)), ("watch", (0,)),
                                ("leave", (0,)), ("redo", ()), ("claim", (0,)), ("paper", (0,))]:
            self.assertRaises(FilterError, getattr(desk, word), *arguments)
            self.assertEqual(desk.report(), ("new",))


class LedTest(DeskCase):
    """Desks that are led through drawn deeds, some of which are refused, beside the model."""

    def drawn_deed(self, draw, model, pool):
        cells, many = model.marking.cells, len(model.marking.marks)
        mark = tuple(sorted(draw.sample(range(cells), draw.randint(1, min(cells, 3)))))
        item = draw.randrange(many)
        if draw.random() < 0.12:
            mark = draw.choice([(), (cells,), (0, 0), [0], (True,), None, mark])
            item = draw.choice([many, -1, True, None, item])
        watched = draw.choice(model.watched) if model.watched else ("free", 1)
        question = draw.choice(pool)
        deeds = [("add", (mark,)), ("drop", (item,)), ("turn", (item, mark)), ("turn", (item, mark)), ("turn", (item, mark)),
                 ("widen", (draw.randint(1, 9),)), ("fold", ()), ("watch", (question,)), ("watch", (question,)),
                 ("watch", (watched,)), ("leave", (draw.choice([watched, watched, question, None]),)),
                 ("undo", ()), ("undo", ()), ("redo", ()), ("redo", ())]
        return draw.choice(deeds)

    def do(self, desk, model, word, arguments):
        """Does the deed with both; whether it was let."""
        before = self.seen(desk)
        refused = model.do(word, arguments)
        if refused:
            self.raises(refused[0], refused[1], getattr(desk, word), *arguments)
            self.assertEqual(self.seen(desk), before)
        else:
            self.assertIsNone(getattr(desk, word)(*arguments))
        self.as_model(desk, model)
        return not refused

    def pool(self, marking, seed):
        """Questions for the marking, few, so that they are watched again and again."""
        every = list(some_questions(marking, 3, seed))
        return every + [("wrong", ()), ("wrong", (0,)), ("meets", (0,), (1,)), ("free", 1), ("cells",), ("take", (0,), 0, (0,))]

    def test_drawn_deeds(self):
        reported, stayed = set(), 0
        for seed in range(90):
            draw = random.Random(seed)
            marking = draw.choice(ASKED + GREATER + MARKINGS)
            desk, model, pool = Desk(marking), Model(marking), self.pool(marking, seed)
            deeds = 0
            while deeds < 60:
                word, arguments = self.drawn_deed(draw, model, pool)
                if word == "watch" and len(model.watched) == 8:
                    continue
                if self.do(desk, model, word, arguments):
                    deeds += 1
                    reported |= {(word, told) for told in model.words}
            stayed += model.stayed
        self.assertGreater(stayed, 10)
        self.assertLessEqual({(word, told) for word in ("undo", "redo") for told in WORDS}, reported)
        for word in ("add", "drop", "turn"):
            self.assertLessEqual({(word, told) for told in WORDS - {"new"}}, reported)

    def test_two_desks_led_by_turns(self):
        for seed in range(12):
            draw = random.Random(1000 + seed)
            marking = draw.choice(ASKED + GREATER)
            desks = [Desk(marking), Desk(marking), Desk(FOUR)]
            models = [Model(marking), Model(marking), Model(FOUR)]
            pool = self.pool(marking, seed)
            for _ in range(90):
                at = draw.randrange(3)
                word, arguments = self.drawn_deed(draw, models[at], pool)
                if word == "watch" and len(models[at].watched) == 8:
                    continue
                self.do(desks[at], models[at], word, arguments)
                for desk, model in zip(desks, models):
                    self.as_model(desk, model)

    def test_desks_led_alike_are_in_the_same_state(self):
        for seed in range(25):
            draw = random.Random(2000 + seed)
            marking = draw.choice(ASKED + GREATER)
            one, other = Desk(marking), Desk(Marking(marking.cells, marking.marks))
            model, pool = Model(marking), self.pool(marking, seed)
            for _ in range(40):
                word, arguments = self.drawn_deed(draw, model, pool)
                if word == "watch" and len(model.watched) == 8:
                    continue
                if self.do(one, model, word, arguments):
                    getattr(other, word)(*arguments)
                self.assertIs(same_state(one, other), True)
                self.assertIs(same_state(other, one), True)
                self.assertEqual(self.seen(one), self.seen(other))


class SameStateTest(DeskCase):
    def told(self, one, other, expected):
        self.assertIs(same_state(one, other), expected)
        self.assertIs(same_state(other, one), expected)

    def test_new_ones(self):
        self.told(Desk(FOUR), Desk(Marking(4, FOUR.marks)), True)
        for at, marking in enumerate(MARKINGS):
            for to, other in enumerate(MARKINGS):
                self.told(Desk(marking), Desk(other), at == to)

    def test_itself(self):
        desk = led(FOUR, ("watch", ("free", 1)), ("undo",))
        self.told(desk, desk, True)

    def test_by_name(self):
        self.assertIs(same_state(other=Desk(FOUR), one=Desk(FOUR)), True)
        self.assertIs(same_state(other=Desk(FOUR), one=Desk(BOTH)), False)

    def test_another_marking(self):
        self.told(led(FOUR, ("widen", 5)), led(FOUR, ("widen", 6)), False)
        self.told(led(FOUR, ("turn", 0, (1,))), led(FOUR, ("turn", 0, (2,))), False)
        self.told(led(FOUR, ("add", (1,))), led(FOUR, ("drop", 0)), False)

    def test_other_watched_questions(self):
        one, two = ("free", 1), ("free", 2)
        self.told(led(FOUR, ("watch", one)), led(FOUR, ("watch", two)), False)
        self.told(led(FOUR, ("watch", one)), led(FOUR, ("widen", 4)), False)
        self.told(led(FOUR, ("watch", one), ("watch", two)), led(FOUR, ("watch", one), ("watch", one)), False)

    def test_another_order(self):
        one, two = ("free", 1), ("wrong", (0,))
        self.told(led(FOUR, ("watch", one), ("watch", two)), led(FOUR, ("watch", two), ("watch", one)), False)

    def test_another_paper(self):
        one = led(Marking(2, ((OTHER,),)), ("watch", NO_KEYS), ("turn", 0, (0, 1)))
        other = led(Marking(2, ((OTHER,),)), ("turn", 0, (0, 1)), ("watch", NO_KEYS))
        self.assertEqual((one.paper(NO_KEYS), other.paper(NO_KEYS)), ((OTHER,), (TOLD,)))
        self.told(one, other, False)

    def test_other_numbers_to_undo_and_to_redo(self):
        two = [("widen", 4), ("widen", 4)]
        self.told(led(FOUR), led(FOUR, ("widen", 4)), False)
        self.told(led(FOUR, *two), led(FOUR, ("widen", 4)), False)
        self.told(led(FOUR, *two, ("undo",)), led(FOUR, ("widen", 4)), False)
        self.told(led(FOUR, *two, ("undo",)), led(FOUR, *two), False)
        self.told(led(FOUR, *two, ("undo",)), led(FOUR, *two, ("undo",), ("undo",)), False)
        self.told(led(FOUR, *two, ("undo",), ("redo",)), led(FOUR, *two), True)
        self.told(led(FOUR, *two, ("undo",)), led(FOUR, *two, ("undo",), ("undo",), ("redo",)), True)

    def test_whatever_the_deeds_were(self):
        self.told(led(FOUR, ("widen", 4)), led(FOUR, ("turn", 0, (0,))), True)
        self.told(led(FOUR, ("widen", 8), ("undo",)), led(FOUR, ("add", (0,)), ("undo",)), True)
        one = led(FOUR, ("watch", ("free", 1)), ("widen", 5))
        other = led(Marking(5, FOUR.marks), ("widen", 5), ("watch", ("free", 1)))
        self.assertNotEqual(one.report(), other.report())
        self.told(one, other, True)

    def test_what_is_refused_changes_no_state(self):
        one, other = led(FOUR, ("widen", 8), ("undo",)), led(FOUR, ("widen", 8), ("undo",))
        for word, arguments in [("add", ((),)), ("drop", (4,)), ("turn", (0, ())), ("widen", (1,)), ("watch", (0,)),
                                ("leave", (0,)), ("undo", ()), ("claim", (0,)), ("paper", (0,))]:
            self.assertRaises(FilterError, getattr(one, word), *arguments)
            self.told(one, other, True)

    def test_desks_are_not_changed(self):
        one, other = led(FOUR, ("watch", ("free", 1))), Desk(BOTH)
        before = self.seen(one), self.seen(other)
        same_state(one, other)
        self.assertEqual((self.seen(one), self.seen(other)), before)


if __name__ == "__main__":
    unittest.main()

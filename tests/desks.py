"""A desk as the document tells it, led along with the one that is tested."""

from asking import expected_question
from changes import ascends_below, same
from markfilters.claims import answer_of
from markfilters.errors import (
    InvalidItem, InvalidMark, InvalidNumber, InvalidQuestion, NothingToUndo, Undefined,
)
from markfilters.markings import Marking
from markfilters.papers import claim_holds, paper_of


class Model:
    """What a desk should show: each deed tells the error that it should raise, as (kind, what is kept), or None."""

    def __init__(self, marking):
        self.marking = marking
        self.watched = []
        self.kept = []
        self.words = []
        self.before = []
        self.undone = []
        # How often a claim and paper stayed though paper_of told another paper.
        self.stayed = 0

    def refusal(self, word, arguments):
        """The error for such a deed, None if it is let."""
        many, cells = len(self.marking.marks), self.marking.cells
        if word in ("drop", "turn") and not (type(arguments[0]) is int and 0 <= arguments[0] < many):
            return InvalidItem, arguments[0]
        if word in ("add", "turn"):
            mark = arguments[-1]
            if not ascends_below(mark, cells) or mark == () or word == "add" and many == 7:
                return InvalidMark, mark
        if word == "drop" and many == 1:
            return Undefined, "alone"
        if word == "widen":
            least = 1 + max(max(mark) for mark in self.marking.marks)
            if not (type(arguments[0]) is int and least <= arguments[0] <= 8):
                return InvalidNumber, arguments[0]
        if word == "fold" and cells % 2 == 1:
            return Undefined, "odd"
        if word == "watch" and not expected_question(self.marking, arguments[0]):
            return InvalidQuestion, arguments[0]
        if word == "leave" and not any(same(arguments[0], question) for question in self.watched):
            return Undefined, "watched"
        if word == "undo" and not self.before or word == "redo" and not self.undone:
            return NothingToUndo, word
        return None

    def do(self, word, arguments):
        """Does the deed, if it is let, and tells the error that it should raise."""
        refused = self.refusal(word, arguments)
        if refused:
            return refused
        now = self.marking, self.watched
        if word == "undo":
            self.undone.append(now)
            self.become(*self.before.pop())
        elif word == "redo":
            self.before.append(now)
            self.become(*self.undone.pop())
        else:
            self.before.append(now)
            self.undone = []
            self.become(self.edited(word, arguments), self.asked(word, arguments))
        return None

    def edited(self, word, arguments):
        cells, marks = self.marking.cells, list(self.marking.marks)
        if word == "add":
            marks.append(arguments[0])
        elif word == "drop":
            del marks[arguments[0]]
        elif word == "turn":
            marks[arguments[0]] = arguments[1]
        elif word == "widen":
            cells = arguments[0]
        elif word == "fold":
            cells //= 2
            marks = [tuple(sorted({cell % cells for cell in mark})) for mark in marks]
        return Marking(cells, tuple(marks))

    def asked(self, word, arguments):
        if word == "watch" and arguments[0] not in self.watched:
            return self.watched + [arguments[0]]
        if word == "leave":
            return [question for question in self.watched if question != arguments[0]]
        return self.watched

    def become(self, marking, watched):
        before = dict(zip(self.watched, self.kept))
        kept, words = [], []
        for question in watched:
            old = before.get(question)
            now, word = (None, None), "none"
            if expected_question(marking, question):
                now, word = (answer_of(marking, question), paper_of(marking, question)), "changed"
                if old is not None and claim_holds(marking, *old):
                    self.stayed += not same(old, now)
                    now, word = old, "kept"
                elif old is not None and old[0] == now[0]:
                    word = "renewed"
            kept.append(now)
            words.append("new" if old is None else word)
        self.marking, self.watched, self.kept, self.words = marking, watched, kept, words

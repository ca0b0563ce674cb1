"""A marking that is edited, with a claim and a paper for each question that is watched."""

from markfilters.basics import is_integer_within, is_same, plain
from markfilters.claims import answer_of, is_question
from markfilters.errors import InvalidItem, InvalidMark, InvalidNumber, InvalidQuestion, NothingToUndo, Undefined
from markfilters.joining import folded
from markfilters.markings import MOST_CELLS, MOST_MARKS, Marking, is_mark
from markfilters.papers import claim_holds, paper_of


def is_item(marking, value):
    """Whether value, of any kind, is an item of the marking."""
    return is_integer_within(value, 0, len(marking) - 1)


def looked_at(marking, question, kept):
    """What is kept for a question from now on, (claim, paper), and the word for it; kept is None if it is new."""
    if not is_question(marking, question):
        return (None, None), ("new" if kept is None else "none")
    if kept is not None and claim_holds(marking, kept[0], kept[1]):
        return kept, "kept"
    now = (answer_of(marking, question), paper_of(marking, question))
    if kept is None:
        return now, "new"
    return now, ("renewed" if now[0] == kept[0] else "changed")


class Desk:
    """A marking, the questions that are watched, and what is kept for them."""

    def __init__(self, marking):
        self.marking = marking
        self.watched = ()
        self.many = 0
        # (claim, paper) for each watched question, in order, and the words of the report.
        self._kept = ()
        self._words = ()
        # (marking, watched) ahead of each deed that can be undone, and behind each that can be redone, last first.
        self._ahead = []
        self._behind = []

    def add(self, mark):
        """One item more, behind the others."""
        if not is_mark(self.marking.cells, mark) or len(self.marking) == MOST_MARKS:
            raise InvalidMark(mark)
        self._mark(self.marking.cells, self.marking.marks + (mark,))

    def drop(self, item):
        """Takes the item out; greater items are one less."""
        if not is_item(self.marking, item):
            raise InvalidItem(item)
        if len(self.marking) == 1:
            raise Undefined("alone")
        marks = self.marking.marks
        self._mark(self.marking.cells, marks[:item] + marks[item + 1:])

    def turn(self, item, mark):
        """Gives the item this mark."""
        if not is_item(self.marking, item):
            raise InvalidItem(item)
        if not is_mark(self.marking.cells, mark):
            raise InvalidMark(mark)
        marks = self.marking.marks
        self._mark(self.marking.cells, marks[:item] + (mark,) + marks[item + 1:])

    def widen(self, cells):
        """So many cells, perhaps fewer than there were."""
        last = max([mark[-1] for mark in self.marking.marks])
        if not is_integer_within(cells, last + 1, MOST_CELLS):
            raise InvalidNumber(cells)
        self._mark(cells, self.marking.marks)

    def fold(self):
        """Folds the marking to half of its cells."""
        # folded refuses an odd number of cells.
        self._do(folded(self.marking), self.watched)

    def watch(self, question):
        """Watches the question from now on; one that is watched keeps its place."""
        if not is_question(self.marking, question):
            raise InvalidQuestion(question)
        asked = plain(question)
        more = () if asked in self.watched else (asked,)
        self._do(self.marking, self.watched + more)

    def leave(self, question):
        """Watches the question, of any kind, no longer."""
        at = self._place(question)
        self._do(self.marking, self.watched[:at] + self.watched[at + 1:])

    def undo(self):
        """Makes marking and watched questions what they were ahead of the last deed that is not undone."""
        if len(self._ahead) == 0:
            raise NothingToUndo("undo")
        self._behind.append((self.marking, self.watched))
        marking, watched = self._ahead.pop()
        self._become(marking, watched)

    def redo(self):
        """Does the deed again that was undone last."""
        if len(self._behind) == 0:
            raise NothingToUndo("redo")
        self._ahead.append((self.marking, self.watched))
        marking, watched = self._behind.pop()
        self._become(marking, watched)

    def claim(self, question):
        """The claim that is kept for the watched question, None if it is no question for the marking."""
        return self._kept[self._place(question)][0]

    def paper(self, question):
        """The paper that is kept for the watched question, None if it is no question for the marking."""
        return self._kept[self._place(question)][1]

    def report(self):
        """A word for each watched question: what the last deed made of it."""
        return self._words

    def _place(self, question):
        """The place of the question, of any kind, among the watched ones."""
        for at, other in enumerate(self.watched):
            if is_same(question, other):
                return at
        raise Undefined("watched")

    def _mark(self, cells, marks):
        """The deed that makes the marking one of these cells and marks."""
        self._do(Marking(cells, marks), self.watched)

    def _do(self, marking, watched):
        """A deed that can be undone and ends what can be redone."""
        self._ahead.append((self.marking, self.watched))
        self._behind = []
        self._become(marking, watched)

    def _become(self, marking, watched):
        """Makes marking and watched questions these, and looks at each of the questions."""
        looks = [looked_at(marking, question, self._kept_for(question)) for question in watched]
        self.marking = marking
        self.watched = watched
        self.many = len(self._ahead)
        self._kept = tuple([kept for kept, _ in looks])
        self._words = tuple([word for _, word in looks])

    def _kept_for(self, question):
        """What is kept for a watched question, None for another one."""
        if question not in self.watched:
            return None
        return self._kept[self._place(question)]

    def _state(self):
        """All by which states of desks are told apart."""
        shown = (self.marking.cells, self.marking.marks, self.watched, self._kept)
        return shown + (len(self._ahead), len(self._behind))


def same_state(one, other):
    """Whether two desks have equal markings, watched questions, claims and papers, and as much to undo and redo."""
    return one._state() == other._state()

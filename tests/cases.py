"""What the tests of several modules ask of calls and of what these return."""

import unittest

from markfilters.errors import FilterError


class Case(unittest.TestCase):
    def refused(self, kind, value, call, marking, *rest):
        """The call raises an error of this kind that keeps the very value, and changes no marking."""
        with self.subTest(call=call.__name__, arguments=rest):
            cells, marks = marking.cells, marking.marks
            self.refused_with(kind, value, call, marking, *rest)
            self.assertEqual((marking.cells, marking.marks), (cells, marks))

    def refused_with(self, kind, value, call, *arguments):
        """The call raises an error of this kind that keeps the very value."""
        with self.assertRaises(FilterError) as caught:
            call(*arguments)
        self.assertIs(type(caught.exception), kind)
        self.assertIs(caught.exception.value, value)

    def plain(self, told):
        """What is told is a plain tuple of plain integers, ascending."""
        self.plain_integers(told)
        self.assertEqual(list(told), sorted(set(told)))

    def plain_integers(self, told):
        """What is told is a plain tuple of plain integers."""
        self.assertIs(type(told), tuple)
        for member in told:
            self.assertIs(type(member), int)

    def expected_cells(self, marking, keys):
        return set().union(*[marking.marks[key] for key in keys])

    def expected_yes(self, marking, bits):
        return [item for item in range(len(marking.marks)) if set(marking.marks[item]) <= set(bits)]

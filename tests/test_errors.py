import unittest

from markfilters import errors

# The class's name, and the name under which it keeps what it is made with.
KEPT = [
    ("InvalidNumber", "value"),
    ("InvalidMarks", "value"),
    ("InvalidMark", "value"),
    ("InvalidKeys", "value"),
    ("InvalidItem", "value"),
    ("InvalidBits", "value"),
    ("InvalidTelling", "value"),
    ("InvalidRows", "value"),
    ("InvalidTable", "value"),
    ("InvalidQuestion", "value"),
    ("InvalidClaim", "value"),
    ("Undefined", "what"),
    ("NothingToUndo", "word"),
]

KINDS = [(getattr(errors, name), kept) for name, kept in KEPT]

VALUES = [0, -5, True, False, None, "", "undo", (), ((1, 2), (3,)), [], [[1], None], object()]


class ErrorsTest(unittest.TestCase):
    def test_by_position_keeps_the_very_value(self):
        for kind, kept in KINDS:
            for value in VALUES:
                self.assertIs(getattr(kind(value), kept), value)

    def test_by_name_keeps_the_very_value(self):
        for kind, kept in KINDS:
            for value in VALUES:
                self.assertIs(getattr(kind(**{kept: value}), kept), value)

    def test_takes_just_one_argument_of_just_this_name(self):
        for kind, kept in KINDS:
            other = "word" if kept != "word" else "what"
            self.assertRaises(TypeError, kind)
            self.assertRaises(TypeError, kind, 1, 2)
            self.assertRaises(TypeError, kind, **{other: 1})

    def test_two_errors_keep_their_own(self):
        for kind, kept in KINDS:
            one, other = kind(1), kind(2)
            self.assertEqual((getattr(one, kept), getattr(other, kept)), (1, 2))

    def test_a_list_is_kept_itself(self):
        for kind, kept in KINDS:
            value = [1]
            error = kind(value)
            value.append(2)
            self.assertIs(getattr(error, kept), value)
            self.assertEqual(value, [1, 2])

    def test_stands_under_filter_error_and_value_error(self):
        for kind, _ in KINDS:
            self.assertTrue(issubclass(kind, errors.FilterError))
            self.assertTrue(issubclass(kind, ValueError))
            self.assertEqual(kind.__bases__, (errors.FilterError,))

    def test_stands_under_no_other_error(self):
        for kind, _ in KINDS:
            for name, _ in KEPT:
                if name != kind.__name__:
                    self.assertFalse(issubclass(kind, getattr(errors, name)))
            self.assertFalse(issubclass(errors.FilterError, kind))
            for builtin in (TypeError, LookupError, ArithmeticError, UnicodeError):
                self.assertFalse(issubclass(kind, builtin))

    def test_filter_error_is_a_value_error(self):
        self.assertEqual(errors.FilterError.__bases__, (ValueError,))

    def test_raised_it_is_caught_by_each_name(self):
        for kind, kept in KINDS:
            for caught in (kind, errors.FilterError, ValueError):
                try:
                    raise kind("told")
                except caught as error:
                    self.assertIs(type(error), kind)
                    self.assertEqual(getattr(error, kept), "told")

    def test_raised_it_is_not_caught_by_another_name(self):
        for kind, _ in KINDS:
            others = tuple(getattr(errors, name) for name, _ in KEPT if name != kind.__name__)
            with self.assertRaises(kind):
                try:
                    raise kind(1)
                except others:
                    self.fail("caught by another error")

    def test_these_are_all_errors(self):
        made = [name for name, thing in vars(errors).items() if isinstance(thing, type)]
        self.assertEqual(sorted(made), sorted(["FilterError"] + [name for name, _ in KEPT]))


if __name__ == "__main__":
    unittest.main()

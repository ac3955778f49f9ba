"""Promise [8]: the errors."""

import unittest

from lastcopied import errors

MADE_WITH_A_STRING = (
    "InvalidRow", "InvalidPhases", "InvalidTime", "InvalidNumber", "InvalidStretch",
    "InvalidPattern", "InvalidStep", "InvalidIndex", "InvalidPeriod", "InvalidLine", "OtherEnds",
    "Unheard", "Full", "NothingToUndo", "InvalidCommand",
)


class TheErrors(unittest.TestCase):

    def test_all_stand_directly_under_copy_error(self):
        self.assertEqual(errors.CopyError.__bases__, (ValueError,))
        for name in (*MADE_WITH_A_STRING, "InvalidText"):
            with self.subTest(name):
                self.assertEqual(getattr(errors, name).__bases__, (errors.CopyError,))
                self.assertEqual(getattr(errors, name).__module__, "lastcopied.errors")

    def test_they_are_made_with_one_string(self):
        for name in ("CopyError", *MADE_WITH_A_STRING):
            with self.subTest(name):
                self.assertEqual(str(getattr(errors, name)("why not")), "why not")

    def test_no_two_are_the_same(self):
        self.assertEqual(len({getattr(errors, name) for name in MADE_WITH_A_STRING}), 15)

    def test_invalid_text_keeps_any_value_as_place(self):
        for value in (0, -3, 10 ** 31 - 1, True, "", "old", None, (), (1, [2]), [], [[3]],
                      errors.Full("no")):
            with self.subTest(value=value):
                self.assertEqual(errors.InvalidText(value).place, value)
                self.assertIs(type(errors.InvalidText(value).place), type(value))
                self.assertEqual(errors.InvalidText(place=value).place, value)

    def test_invalid_text_can_be_raised_and_caught(self):
        with self.assertRaises(errors.CopyError) as caught:
            raise errors.InvalidText(4)
        self.assertEqual(caught.exception.place, 4)

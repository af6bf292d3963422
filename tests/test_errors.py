"""The error classes: their bases, what they are created with, their attributes."""

import unittest

from latecoming import errors


class BasesTest(unittest.TestCase):
    def test_every_error_is_a_late_error_and_a_value_error(self):
        names = (
            "TextError Malformed Misplaced TooMany Repeated Unknown InvalidCase InvalidDelays TooLarge "
            "MonitorFull UnknownMessage JournalError Changed Impossible"
        )
        for name in names.split():
            with self.subTest(name):
                kind = getattr(errors, name)
                self.assertTrue(issubclass(kind, errors.LateError))
                self.assertTrue(issubclass(kind, ValueError))
        self.assertTrue(issubclass(errors.LateError, ValueError))

    def test_bases_are_those_of_the_interface(self):
        of_texts = (errors.Malformed, errors.Misplaced, errors.TooMany, errors.Repeated, errors.Unknown)
        of_journals = (errors.Changed, errors.Impossible)
        of_neither = (
            errors.InvalidCase,
            errors.InvalidDelays,
            errors.TooLarge,
            errors.MonitorFull,
            errors.UnknownMessage,
        )
        for kind in of_texts + of_journals + of_neither:
            with self.subTest(kind):
                self.assertEqual(issubclass(kind, errors.TextError), kind in of_texts)
                self.assertEqual(issubclass(kind, errors.JournalError), kind in of_journals)

    def test_no_error_is_another_one(self):
        leaves = (
            errors.Malformed,
            errors.Misplaced,
            errors.TooMany,
            errors.Repeated,
            errors.Unknown,
            errors.Changed,
            errors.Impossible,
            errors.InvalidCase,
            errors.InvalidDelays,
            errors.TooLarge,
            errors.MonitorFull,
            errors.UnknownMessage,
        )
        for kind in leaves:
            self.assertEqual([other for other in leaves if issubclass(kind, other)], [kind])


class AttributesTest(unittest.TestCase):
    def test_text_errors_with_a_line(self):
        for kind in (errors.Malformed, errors.Misplaced, errors.TooMany):
            for line in (0, 1, 20001):
                self.assertEqual(kind(line).line, line)

    def test_text_errors_with_a_line_and_a_word(self):
        for kind in (errors.Repeated, errors.Unknown):
            error = kind(7, "lamp")
            self.assertEqual((error.line, error.word), (7, "lamp"))

    def test_journal_errors_have_a_line(self):
        for kind in (errors.Changed, errors.Impossible):
            self.assertEqual(kind(3).line, 3)

    def test_unknown_message_has_a_name(self):
        self.assertEqual(errors.UnknownMessage("on").name, "on")

    def test_errors_are_raised_and_caught_by_their_bases(self):
        for base in (errors.Unknown, errors.TextError, errors.LateError, ValueError):
            with self.assertRaises(base):
                raise errors.Unknown(2, "bell")
        for base in (errors.Changed, errors.JournalError, errors.LateError, ValueError):
            with self.assertRaises(base):
                raise errors.Changed(2)
        for kind in (errors.InvalidCase, errors.InvalidDelays, errors.TooLarge, errors.MonitorFull):
            with self.assertRaises(errors.LateError):
                raise kind("why")


if __name__ == "__main__":
    unittest.main()

"""The classes of errors: their bases, what they are created with, and their attributes."""

import unittest

from orderneed import errors

LINE_ERRORS = ("Malformed", "Misplaced", "Unfit", "Doubled", "TooMany", "Changed")
WORD_ERRORS = ("Repeated", "Unknown")
WORDED_ERRORS = ("InvalidCase", "InvalidPromise", "InvalidKept", "InvalidParcel", "TooLarge", "Full")


class BasesTest(unittest.TestCase):
    def check_base(self, name, base):
        self.assertEqual(getattr(errors, name).__bases__, (base,))

    def test_base_of_all(self):
        self.check_base("OrderError", ValueError)

    def test_errors_of_a_line(self):
        self.check_base("TextError", errors.OrderError)
        for name in LINE_ERRORS + WORD_ERRORS:
            with self.subTest(name):
                self.check_base(name, errors.TextError)

    def test_other_errors(self):
        for name in WORDED_ERRORS + ("Missing", "UnknownName"):
            with self.subTest(name):
                self.check_base(name, errors.OrderError)
                self.assertFalse(issubclass(getattr(errors, name), errors.TextError))

    def test_classes_are_defined_here(self):
        for name in LINE_ERRORS + WORD_ERRORS + WORDED_ERRORS + ("OrderError", "TextError", "Missing", "UnknownName"):
            with self.subTest(name):
                self.assertEqual(getattr(errors, name).__module__, "orderneed.errors")


class AttributesTest(unittest.TestCase):
    def check_integer(self, value, expected):
        self.assertEqual(value, expected)
        self.assertIs(type(value), int)

    def test_line(self):
        for name in ("TextError",) + LINE_ERRORS:
            for line in (0, 1, 40000):
                with self.subTest(name, line=line):
                    self.check_integer(getattr(errors, name)(line).line, line)

    def test_line_and_word(self):
        for name in WORD_ERRORS:
            with self.subTest(name):
                error = getattr(errors, name)(12, "word")
                self.check_integer(error.line, 12)
                self.assertEqual(error.word, "word")

    def test_missing(self):
        error = errors.Missing("state1", "name", 8)
        self.assertEqual((error.state, error.name), ("state1", "name"))
        self.check_integer(error.position, 8)
        self.assertFalse(hasattr(error, "line"))

    def test_unknown_name(self):
        self.assertEqual(errors.UnknownName("name").name, "name")

    def test_created_with_a_text(self):
        for name in ("OrderError",) + WORDED_ERRORS:
            with self.subTest(name):
                self.assertEqual(str(getattr(errors, name)("some words")), "some words")

    def test_messages_tell_the_place(self):
        self.assertIn("17", str(errors.Malformed(17)))
        self.assertIn("17", str(errors.Unknown(17, "word")))
        for part in ("state1", "name", "8"):
            self.assertIn(part, str(errors.Missing("state1", "name", 8)))
        self.assertIn("other", str(errors.UnknownName("other")))


class CatchingTest(unittest.TestCase):
    def test_all_are_caught_by_the_base(self):
        made = [getattr(errors, name)(1) for name in ("TextError",) + LINE_ERRORS]
        made += [getattr(errors, name)(1, "a") for name in WORD_ERRORS]
        made += [getattr(errors, name)("a") for name in ("OrderError", "UnknownName") + WORDED_ERRORS]
        made += [errors.Missing("e", "a", 0)]
        for error in made:
            with self.subTest(error):
                with self.assertRaises(errors.OrderError) as caught:
                    raise error
                self.assertIs(caught.exception, error)


if __name__ == "__main__":
    unittest.main()

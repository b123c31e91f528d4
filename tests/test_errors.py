"""The errors that the interface lists."""

import unittest

from walkhands import errors

NAMES = (
    "NotStrip", "DifferentEnds", "AmountTooGreat", "LetterTooGreat", "TooManyLetters", "NotAPair",
    "NotAFamily", "NotHeights", "NoSuchRow", "NoSuchColumn", "NoSuchCorner", "WrongAmounts",
    "WrongSize", "TooManyChanges", "WrongPlace",
)


class TestErrors(unittest.TestCase):
    def test_base_class_is_a_value_error(self):
        self.assertEqual(errors.WalkhandsError.__bases__, (ValueError,))

    def test_each_error_has_the_listed_base_class(self):
        for name in NAMES:
            with self.subTest(name=name):
                self.assertEqual(getattr(errors, name).__bases__, (errors.WalkhandsError,))

    def test_each_class_is_defined_here_under_its_own_name(self):
        for name in ("WalkhandsError",) + NAMES:
            with self.subTest(name=name):
                self.assertEqual(getattr(errors, name).__name__, name)
                self.assertEqual(getattr(errors, name).__module__, "walkhands.errors")

    def test_an_error_is_of_its_base_classes_and_no_other_class(self):
        for name in NAMES:
            made = getattr(errors, name)("mu")
            expected = {"WalkhandsError", name}
            held = {other for other in ("WalkhandsError",) + NAMES if isinstance(made, getattr(errors, other))}
            with self.subTest(name=name):
                self.assertEqual(held, expected)
                self.assertIsInstance(made, ValueError)

    def test_there_are_no_further_errors(self):
        found = {name for name, value in vars(errors).items() if isinstance(value, type)}
        self.assertEqual(found, {"WalkhandsError"} | set(NAMES))

    def test_not_strip_keeps_its_name(self):
        self.assertEqual(errors.NotStrip("mu").name, "mu")
        self.assertEqual(errors.NotStrip("nu").name, "nu")
        self.assertEqual(errors.NotStrip(name="nu").name, "nu")

    def test_not_strip_can_be_caught_by_each_base_class(self):
        for base in (errors.NotStrip, errors.WalkhandsError, ValueError):
            with self.subTest(base=base), self.assertRaises(base):
                raise errors.NotStrip("mu")


if __name__ == "__main__":
    unittest.main()

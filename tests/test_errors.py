"""The error classes: their families, fields and texts."""

import unittest

from strandpull import errors

TOLD = ("NoRope", "NoLoad", "NoName", "NoNumber", "Taken")
ASKED = ("Full", "Hung", "NoRopes", "Whole")
WITH_TEXT = ("PullError", "ToldError", "AskedError", "NoRope", "NoLoad", "NoName", "NoNumber", "Taken", "Full",
             "NoRopes")


class ErrorTests(unittest.TestCase):
    def test_any_refusal_is_straight_under_value_error(self):
        self.assertEqual(errors.PullError.__bases__, (ValueError,))

    def test_the_two_families_are_straight_under_any_refusal(self):
        self.assertEqual(errors.ToldError.__bases__, (errors.PullError,))
        self.assertEqual(errors.AskedError.__bases__, (errors.PullError,))

    def test_each_class_is_straight_under_its_family(self):
        for name in TOLD:
            with self.subTest(name):
                self.assertEqual(getattr(errors, name).__bases__, (errors.ToldError,))
        for name in ASKED:
            with self.subTest(name):
                self.assertEqual(getattr(errors, name).__bases__, (errors.AskedError,))

    def test_each_class_is_defined_in_the_module(self):
        for name in WITH_TEXT + ASKED:
            with self.subTest(name):
                self.assertEqual(getattr(errors, name).__module__, "strandpull.errors")
                self.assertEqual(getattr(errors, name).__name__, name)

    def test_those_without_fields_are_made_of_a_text(self):
        for name in WITH_TEXT:
            with self.subTest(name):
                self.assertEqual(str(getattr(errors, name)("a few words")), "a few words")

    def test_hung_has_its_weight(self):
        self.assertEqual(errors.Hung((7, 2)).weight, (7, 2))
        self.assertEqual(errors.Hung(weight=(7, 2)).weight, (7, 2))

    def test_whole_has_its_name(self):
        self.assertEqual(errors.Whole("rope").name, "rope")
        self.assertEqual(errors.Whole(name="rope").name, "rope")

    def test_those_with_a_field_have_a_text_whatever_the_field(self):
        self.assertTrue(str(errors.Hung((10 ** 5000, 1))))
        self.assertTrue(str(errors.Whole("rope")))

    def test_a_refusal_is_caught_by_its_family(self):
        with self.assertRaises(errors.AskedError):
            raise errors.Hung((1, 1))
        with self.assertRaises(errors.ToldError):
            raise errors.Taken("taken")
        with self.assertRaises(ValueError):
            raise errors.Whole("rope")


if __name__ == "__main__":
    unittest.main()

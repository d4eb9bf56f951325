"""The error classes of the interface."""

import unittest

from stubcords import errors

WITH_A_TEXT = (
    "NoHouse", "NoLights", "NoLot", "NoCandle", "NoBeat", "NotClosed", "NoCords", "NoCord",
    "UnlikeMany", "NotTops", "HasLight", "NoLight", "NoTimes", "NoOrder", "NoDeed", "NoText",
    "NoLine",
)


class Errors(unittest.TestCase):
    def test_all_stand_straight_under_stub_error(self):
        self.assertEqual(errors.StubError.__bases__, (ValueError,))
        for name in WITH_A_TEXT + ("TooMany", "TooMuch"):
            self.assertEqual(getattr(errors, name).__bases__, (errors.StubError,), name)

    def test_no_two_names_are_one_class(self):
        classes = {getattr(errors, name) for name in WITH_A_TEXT + ("TooMany", "TooMuch", "StubError")}
        self.assertEqual(len(classes), 20)

    def test_all_are_defined_in_this_file_under_their_names(self):
        for name in WITH_A_TEXT + ("TooMany", "TooMuch", "StubError"):
            self.assertEqual(getattr(errors, name).__module__, "stubcords.errors")
            self.assertEqual(getattr(errors, name).__name__, name)

    def test_made_with_a_text(self):
        for name in WITH_A_TEXT + ("StubError",):
            self.assertEqual(str(getattr(errors, name)("no such thing")), "no such thing")

    def test_too_many_and_too_much_have_their_fields(self):
        for made in (errors.TooMany(8, 7), errors.TooMany(many=8, most=7),
                     errors.TooMany(most=7, many=8)):
            self.assertEqual((made.many, made.most), (8, 7))
        for made in (errors.TooMuch(1000001, 1000000), errors.TooMuch(much=1000001, most=1000000),
                     errors.TooMuch(most=1000000, much=1000001)):
            self.assertEqual((made.much, made.most), (1000001, 1000000))

    def test_their_texts_tell_both_numbers(self):
        for made in (errors.TooMany(8, 7), errors.TooMany(many=8, most=7),
                     errors.TooMuch(8, 7), errors.TooMuch(much=8, most=7)):
            self.assertIn("8", str(made))
            self.assertIn("7", str(made))

    def test_they_are_caught_as_stub_error_and_value_error(self):
        for made in (errors.NoHouse("none"), errors.TooMany(8, 7), errors.TooMuch(8, 7)):
            for caught in (errors.StubError, ValueError):
                with self.assertRaises(caught):
                    raise made


if __name__ == "__main__":
    unittest.main()

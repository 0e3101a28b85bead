import unittest

from halftold import errors


class ErrorsTest(unittest.TestCase):
    def test_bracket_error_stands_under_value_error(self):
        self.assertEqual(errors.BracketError.__bases__, (ValueError,))

    def test_each_refusal_stands_straight_under_bracket_error(self):
        for name in ("BadRow", "NoFilling", "BadNumber", "BadText", "BadPrices"):
            with self.subTest(name=name):
                refusal = getattr(errors, name)
                self.assertEqual(refusal.__name__, name)
                self.assertEqual(refusal.__bases__, (errors.BracketError,))

    def test_refusals_are_five_different_classes(self):
        found = {errors.BadRow, errors.NoFilling, errors.BadNumber, errors.BadText, errors.BadPrices}
        self.assertEqual(len(found), 5)


if __name__ == "__main__":
    unittest.main()

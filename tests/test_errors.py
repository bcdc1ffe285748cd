import unittest

from primecloth.errors import (
    AllRoots, BadRow, BadSpot, ClothError, Enough, NoDivisor, NotPrime, SameSpot, TooMany)

REFUSALS = (NotPrime, BadRow, BadSpot, NoDivisor, SameSpot, TooMany, Enough, AllRoots)


class ErrorsTest(unittest.TestCase):
    def test_cloth_error_is_a_value_error(self):
        self.assertEqual(ClothError.__bases__, (ValueError,))

    def test_each_refusal_stands_under_cloth_error_and_under_no_other(self):
        for refusal in REFUSALS:
            with self.subTest(refusal=refusal.__name__):
                self.assertEqual(refusal.__bases__, (ClothError,))

    def test_the_names_are_those_of_the_interface(self):
        names = [refusal.__name__ for refusal in REFUSALS]
        self.assertEqual(
            names,
            ["NotPrime", "BadRow", "BadSpot", "NoDivisor", "SameSpot", "TooMany", "Enough", "AllRoots"])

    def test_each_refusal_is_taken_as_a_cloth_error_and_as_a_value_error(self):
        for refusal in REFUSALS:
            with self.subTest(refusal=refusal.__name__):
                with self.assertRaises(ClothError):
                    raise refusal("words")
                with self.assertRaises(ValueError):
                    raise refusal("words")


if __name__ == "__main__":
    unittest.main()

"""The interface of callsmith/errors.py: the nine refusals and what is above them."""

import unittest

from callsmith import errors

NAMES = (
    "NameTwice", "NoSuchName", "NoSuchFunction", "WrongCount", "TooTall",
    "ByNought", "TooGreat", "TooDeep", "Dry",
)


class Errors(unittest.TestCase):
    def test_smith_error_stands_under_value_error(self):
        self.assertTrue(issubclass(errors.SmithError, ValueError))

    def test_each_refusal_stands_under_smith_error(self):
        for name in NAMES:
            with self.subTest(name):
                self.assertTrue(issubclass(getattr(errors, name), errors.SmithError))
                self.assertIsNot(getattr(errors, name), errors.SmithError)

    def test_no_refusal_stands_under_another_one(self):
        for one in NAMES:
            for other in NAMES:
                if one != other:
                    with self.subTest(one=one, other=other):
                        self.assertFalse(issubclass(getattr(errors, one), getattr(errors, other)))

    def test_each_refusal_can_be_raised_and_caught_as_any_refusal(self):
        for name in NAMES:
            with self.subTest(name), self.assertRaises(errors.SmithError):
                raise getattr(errors, name)("why")


if __name__ == "__main__":
    unittest.main()

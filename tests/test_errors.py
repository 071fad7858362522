"""The refusals: point 2 and the interface of blockfall/errors.py."""

import unittest

from blockfall import errors

REFUSALS = (
    "TooLong", "NoRow", "NoPlace", "Twice", "Full", "NoBox", "Open", "NoBlock",
    "NoForm", "NoneYet", "NoOrder", "NoWay",
)


class ErrorsTest(unittest.TestCase):
    def test_fall_error_stands_under_value_error(self):
        self.assertTrue(issubclass(errors.FallError, ValueError))

    def test_every_refusal_stands_under_fall_error(self):
        for name in REFUSALS:
            with self.subTest(name):
                refusal = getattr(errors, name)
                self.assertTrue(issubclass(refusal, errors.FallError))
                self.assertIsNot(refusal, errors.FallError)
                self.assertEqual(refusal.__name__, name)

    def test_no_refusal_stands_under_another_one(self):
        for one in REFUSALS:
            for other in REFUSALS:
                if one != other:
                    with self.subTest(one=one, other=other):
                        self.assertFalse(issubclass(getattr(errors, one), getattr(errors, other)))

    def test_every_refusal_can_be_raised_and_taken(self):
        for name in REFUSALS:
            with self.subTest(name):
                with self.assertRaises(errors.FallError):
                    raise getattr(errors, name)("some words")


if __name__ == "__main__":
    unittest.main()

"""Promise 2: the refusals and how they stand under one another."""

import unittest

from everyrow import errors

REFUSALS = (
    "TooLong", "NoRow", "NoPlace", "TooDeep", "NoMeasure", "Twice", "Full", "NoBox", "Open",
    "TooMany", "NoForm", "NoneYet", "NoTarget",
)


class TestErrors(unittest.TestCase):
    def test_row_error_stands_under_value_error(self):
        self.assertEqual(errors.RowError.__bases__, (ValueError,))

    def test_each_refusal_is_there_and_stands_straight_under_row_error(self):
        for name in REFUSALS:
            with self.subTest(name=name):
                self.assertEqual(getattr(errors, name).__bases__, (errors.RowError,))

    def test_no_refusal_stands_under_another_one(self):
        classes = [getattr(errors, name) for name in REFUSALS]
        for one in classes:
            self.assertEqual([other for other in classes if issubclass(one, other)], [one])

    def test_no_two_refusals_are_one(self):
        self.assertEqual(len({getattr(errors, name) for name in REFUSALS}), 13)


if __name__ == "__main__":
    unittest.main()

"""The refusals of flipwright.errors."""

import unittest

from flipwright import errors
from flipwright.errors import FlipError, NoName, NoText

WITH_ROW = ["NoText", "NoName"]
WITHOUT_ROW = ["NoShare", "Never", "TooMuch", "NoOrder", "NoNumber", "NoRow"]
REFUSALS = WITH_ROW + WITHOUT_ROW


def made(name):
    refusal = getattr(errors, name)
    return refusal(3) if name in WITH_ROW else refusal()


class TestErrors(unittest.TestCase):
    def test_flip_error_is_a_value_error(self):
        self.assertTrue(issubclass(FlipError, ValueError))

    def test_each_refusal_is_a_flip_error_and_a_value_error(self):
        for name in REFUSALS:
            with self.subTest(name):
                self.assertIsInstance(made(name), FlipError)
                self.assertIsInstance(made(name), ValueError)
                self.assertEqual(getattr(errors, name).__bases__, (FlipError,))

    def test_no_refusal_is_one_of_the_other_seven(self):
        for name in REFUSALS:
            for other in REFUSALS:
                if name != other:
                    with self.subTest(name=name, other=other):
                        self.assertNotIsInstance(made(name), getattr(errors, other))

    def test_each_is_raised_and_taken_by_name(self):
        for name in REFUSALS:
            with self.subTest(name):
                with self.assertRaises(getattr(errors, name)):
                    raise made(name)
                with self.assertRaises(FlipError):
                    raise made(name)

    def test_field_row(self):
        for row in (-1, 0, 1, 40):
            self.assertEqual(NoText(row).row, row)
            self.assertEqual(NoName(row).row, row)
            self.assertEqual(NoText(row=row).row, row)
            self.assertEqual(NoName(row=row).row, row)

    def test_field_row_of_a_taken_refusal(self):
        for refusal in (NoText, NoName):
            with self.assertRaises(refusal) as taken:
                raise refusal(7)
            self.assertEqual(taken.exception.row, 7)

    def test_refusals_may_have_words(self):
        for name in WITHOUT_ROW:
            self.assertIn("why", str(getattr(errors, name)("why")))


if __name__ == "__main__":
    unittest.main()

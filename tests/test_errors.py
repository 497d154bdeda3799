"""Point 19, the classes alone."""

import unittest

from secondread.errors import Full, NotDue, OutOfBounds, OutOfTime, ReadError, UnknownNumber

REFUSALS = (OutOfTime, UnknownNumber, NotDue, OutOfBounds, Full)


class ErrorsTest(unittest.TestCase):
    def test_read_error_stands_under_value_error(self):
        self.assertEqual(ReadError.__bases__, (ValueError,))

    def test_each_refusal_stands_under_read_error(self):
        for refusal in REFUSALS:
            self.assertEqual(refusal.__bases__, (ReadError,), refusal.__name__)

    def test_names(self):
        names = [refusal.__name__ for refusal in REFUSALS]
        self.assertEqual(names, ["OutOfTime", "UnknownNumber", "NotDue", "OutOfBounds", "Full"])
        self.assertEqual(ReadError.__name__, "ReadError")

    def test_no_refusal_is_an_instance_of_another(self):
        for one in REFUSALS:
            for other in REFUSALS:
                self.assertEqual(isinstance(one("words"), other), one is other, (one, other))

    def test_read_error_is_none_of_the_five(self):
        for refusal in REFUSALS:
            self.assertNotIsInstance(ReadError("words"), refusal)

    def test_each_can_be_raised_and_taken(self):
        for refusal in REFUSALS:
            for taken_as in (refusal, ReadError, ValueError):
                with self.assertRaises(taken_as):
                    raise refusal("words")


if __name__ == "__main__":
    unittest.main()

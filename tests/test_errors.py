import unittest

from shiftrow.errors import BadNumber, BadSets, BadTape, BadText, NoSign, TapeError


class TestErrors(unittest.TestCase):
    def test_each_refusal_is_a_tape_error(self):
        for error in (BadSets, BadTape, NoSign, BadNumber, BadText):
            with self.subTest(error=error.__name__):
                self.assertEqual(error.__bases__, (TapeError,))

    def test_a_tape_error_is_a_value_error(self):
        self.assertEqual(TapeError.__bases__, (ValueError,))

    def test_values_are_set(self):
        self.assertEqual(BadSets("second").why, "second")
        self.assertEqual(BadTape(7).at, 7)
        self.assertEqual(NoSign(8).at, 8)
        self.assertEqual(BadText(9).place, 9)

    def test_errors_stand_in_their_file(self):
        for error in (TapeError, BadSets, BadTape, NoSign, BadNumber, BadText):
            self.assertEqual(error.__module__, "shiftrow.errors")


if __name__ == "__main__":
    unittest.main()

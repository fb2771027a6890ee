import unittest

from by_hand import all_tapes
from shiftrow.errors import BadSets, BadTape, BadText
from shiftrow.notes import read_tape, written

SETS = ("abc", "123")
TEN = ("abcdefghij", "0123456789")


class TestWritten(unittest.TestCase):
    """Point [10], `written`."""

    def test_empty_tape(self):
        self.assertEqual(written(SETS, []), "")

    def test_codes_with_one_blank_between(self):
        self.assertEqual(written(SETS, [0]), "0")
        self.assertEqual(written(SETS, [0, 4, 2, 3]), "0 4 2 3")
        self.assertEqual(written(TEN, [10, 0, 11, 9]), "10 0 11 9")

    def test_needless_shifts_stay(self):
        self.assertEqual(written(SETS, [3, 4, 4]), "3 4 4")

    def test_two_hundred_codes(self):
        self.assertEqual(written(TEN, [11] * 200), "11 " * 199 + "11")

    def test_refused(self):
        with self.assertRaises(BadSets):
            written(("", ""), [])
        for tape, at in (([5], 0), ([0, -1], 1), ([0] * 201, 200)):
            with self.assertRaises(BadTape) as caught:
                written(SETS, tape)
            self.assertEqual(caught.exception.at, at)

    def test_kind_of_value(self):
        self.assertIs(type(written(SETS, [])), str)


class TestReadTape(unittest.TestCase):
    """Point [10], `read_tape`."""

    def bad_text(self, text, place, sets=TEN):
        with self.assertRaises(BadText) as caught:
            read_tape(sets, text)
        self.assertEqual(caught.exception.place, place)

    def bad_tape(self, text, at, sets=SETS):
        with self.assertRaises(BadTape) as caught:
            read_tape(sets, text)
        self.assertEqual(caught.exception.at, at)

    def test_empty_text(self):
        self.assertEqual(read_tape(SETS, ""), [])

    def test_words(self):
        self.assertEqual(read_tape(SETS, "0"), [0])
        self.assertEqual(read_tape(SETS, "0 4 2 3"), [0, 4, 2, 3])
        self.assertEqual(read_tape(TEN, "10 0 11 9"), [10, 0, 11, 9])

    def test_what_is_written_is_read_to_the_same_tape(self):
        for tape in all_tapes(("a", "1"), 5):
            self.assertEqual(read_tape(("a", "1"), written(("a", "1"), tape)), tape)
        for code in range(12):
            self.assertEqual(read_tape(TEN, written(TEN, [code, 11 - code])), [code, 11 - code])

    def test_two_hundred_codes(self):
        tape = list(range(12)) * 16 + [0] * 8
        self.assertEqual(read_tape(TEN, written(TEN, tape)), tape)

    def test_words_that_are_no_numbers(self):
        for word in ("00", "01", "09", "-1", "+1", "100", "000", "x", "1x", "x1", "1.", "1_0", "-0",
                     "0x", "1,", "~", "!", "1000000", "\t", "1\t", "\u0661", "\u00b2"):
            with self.subTest(word=word):
                self.bad_text(word, 0)
                self.bad_text("1 " + word, 1)
                self.bad_text("1 10 " + word + " 2", 2)

    def test_empty_words(self):
        self.bad_text(" ", 0)
        self.bad_text("  ", 0)
        self.bad_text(" 1", 0)
        self.bad_text("1 ", 1)
        self.bad_text("1  2", 1)
        self.bad_text("1 2  3 ", 2)

    def test_first_of_several(self):
        self.bad_text("1 x 00 y", 1)
        self.bad_text("1 2 00 x", 2)

    def test_other_kinds_of_blanks_do_not_part_words(self):
        self.bad_text("1\n2", 0)
        self.bad_text("0 1\t2", 1)

    def test_number_that_is_no_code(self):
        self.bad_tape("5", 0)
        self.bad_tape("0 4 5", 2)
        self.bad_tape("0 99 50", 1)
        self.bad_tape("10", 0)
        self.bad_tape("12", 0, TEN)

    def test_more_than_two_hundred_words(self):
        self.bad_tape("0 " * 200 + "0", 200)
        self.bad_tape("0 " * 204 + "0", 200)
        self.bad_tape("0 " * 199 + "9 0", 199)
        self.bad_tape("0 " * 2999 + "0", 200)

    def test_text_is_refused_ahead_of_the_tape(self):
        self.bad_text("99 5 x", 2, SETS)
        self.bad_text("0 " * 201 + "x", 201, SETS)
        self.bad_text("0 " * 201, 201, SETS)
        self.bad_text("99 01", 1, SETS)

    def test_sets_are_refused_ahead_of_the_text(self):
        with self.assertRaises(BadSets) as caught:
            read_tape(("ab", "11"), "x 99")
        self.assertEqual(caught.exception.why, "second")

    def test_kind_of_value(self):
        self.assertIs(type(read_tape(SETS, "")), list)
        self.assertEqual([type(code) for code in read_tape(SETS, "1 2")], [int, int])


if __name__ == "__main__":
    unittest.main()

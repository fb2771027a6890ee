import unittest

from by_hand import all_tapes, all_texts, first_tape, number_spoilt, text_read
from shiftrow.errors import BadNumber, BadSets, NoSign
from shiftrow.writing import guarded, least

SETS = ("abc", "123")
ALIKE = ("a-c", "1-3")  # code 1 is common
CROSSED = ("ab", "ba")  # both signs stand in both sets, by other codes
TO_FIRST = 3
TO_SECOND = 4
SMALL = (("a", "1"), ("a", "a"), ("ab", "12"), ("ab", "ba"), ("ab", "a1"), ("ab", "bc"))


def most_lost(sets, tape, state):
    return max([number_spoilt(sets, tape, state, lost) for lost in range(len(tape))], default=0)


class TestLeast(unittest.TestCase):
    """Point [6], `least`."""

    def test_empty_text(self):
        self.assertEqual(least(SETS, "", 0), [])
        self.assertEqual(least(SETS, "", 1), [])

    def test_one_set(self):
        self.assertEqual(least(SETS, "cab", 0), [2, 0, 1])
        self.assertEqual(least(SETS, "312", 1), [2, 0, 1])
        self.assertEqual(least(SETS, "312", 0), [TO_SECOND, 2, 0, 1])
        self.assertEqual(least(SETS, "cab", 1), [TO_FIRST, 2, 0, 1])

    def test_both_sets_in_turn(self):
        self.assertEqual(least(SETS, "a1b2", 0), [0, TO_SECOND, 0, TO_FIRST, 1, TO_SECOND, 1])
        self.assertEqual(least(SETS, "a1", 1), [TO_FIRST, 0, TO_SECOND, 0])

    def test_common_code_ahead_of_a_shift(self):
        self.assertEqual(least(ALIKE, "a--1", 0), [0, 1, 1, TO_SECOND, 0])
        self.assertEqual(least(ALIKE, "-", 1), [1])

    def test_sign_in_both_sets_by_other_codes(self):
        self.assertEqual(least(CROSSED, "ab", 0), [0, 1])
        self.assertEqual(least(CROSSED, "ab", 1), [1, 0])
        # "b" may stand ahead of the shift or behind it: the lesser list has it ahead.
        self.assertEqual(least(("axb", "bc1"), "ab1", 0), [0, 2, 4, 2])
        self.assertEqual(least(("bxa", "1cb"), "ab1", 0), [2, 0, 4, 0])

    def test_no_shift_that_a_later_one_spares(self):
        # Both signs stand in the second set, the one of them in the first as well.
        self.assertEqual(least(("ab", "bc"), "bcb", 0), [1, 3, 1, 0])
        self.assertEqual(least(("ab", "bc"), "bab", 1), [0, 2, 0, 1])

    def test_first_of_all_tapes(self):
        for sets in SMALL:
            for text in all_texts(sets, 3):
                for state in (0, 1):
                    own = first_tape(sets, text, state, 6)
                    self.assertEqual(least(sets, text, state), own, (sets, text, state))

    def test_first_of_plainly_all_tapes(self):
        for text in all_texts(("a", "1"), 3):
            tapes = [tape for tape in all_tapes(("a", "1"), 6) if text_read(("a", "1"), tape, 0) == text]
            self.assertEqual(least(("a", "1"), text, 0), tapes[0])

    def test_four_hundred_signs(self):
        text = "a1" * 200
        tape = least(SETS, text, 0)
        self.assertEqual(len(tape), 799)
        self.assertEqual(text_read(SETS, tape, 0), text)
        self.assertEqual(least(SETS, "c" * 400, 0), [2] * 400)

    def test_no_sign(self):
        for text, at in (("xab", 0), ("a1x2", 2), ("ab1x", 3), ("x", 0), ("a x y", 1), ("1yx", 1)):
            for state in (0, 1):
                with self.assertRaises(NoSign) as caught:
                    least(SETS, text, state)
                self.assertEqual(caught.exception.at, at)

    def test_signs_are_as_they_stand(self):
        with self.assertRaises(NoSign) as caught:
            least(SETS, "aA", 0)
        self.assertEqual(caught.exception.at, 1)

    def test_refused(self):
        with self.assertRaises(BadSets):
            least(("", ""), "", 0)
        for state in (-1, 2):
            with self.assertRaises(BadNumber):
                least(SETS, "", state)

    def test_kind_of_value(self):
        self.assertIs(type(least(SETS, "", 0)), list)
        self.assertEqual([type(code) for code in least(SETS, "a1", 0)], [int, int, int])


class TestGuarded(unittest.TestCase):
    """Point [7], `guarded`."""

    def test_empty_text(self):
        for most in (0, 1, 20):
            self.assertEqual(guarded(SETS, "", 0, most), [])
            self.assertEqual(guarded(SETS, "", 1, most), [])

    def test_no_shift_no_loss(self):
        self.assertEqual(guarded(SETS, "abcab", 0, 0), [0, 1, 2, 0, 1])
        self.assertEqual(guarded(SETS, "12312", 1, 0), [0, 1, 2, 0, 1])

    def test_shift_told_twice(self):
        self.assertEqual(guarded(SETS, "1", 0, 0), [TO_SECOND, TO_SECOND, 0])
        self.assertEqual(guarded(SETS, "a", 1, 0), [TO_FIRST, TO_FIRST, 0])
        self.assertEqual(guarded(SETS, "a1a", 0, 0),
                         [0, TO_SECOND, TO_SECOND, 0, TO_FIRST, TO_FIRST, 0])

    def test_run_as_long_as_the_number(self):
        self.assertEqual(guarded(SETS, "1", 0, 1), [TO_SECOND, 0])
        self.assertEqual(guarded(SETS, "12", 0, 2), [TO_SECOND, 0, 1])
        self.assertEqual(guarded(SETS, "1" * 20, 0, 20), [TO_SECOND] + [0] * 20)

    def test_run_longer_than_the_number(self):
        self.assertEqual(guarded(SETS, "12", 0, 1), [TO_SECOND, 0, TO_SECOND, 1])
        self.assertEqual(guarded(SETS, "12312", 0, 2), [TO_SECOND, 0, 1, TO_SECOND, 2, 0, 1])
        self.assertEqual(guarded(SETS, "1" * 21, 0, 20), [TO_SECOND] + [0] * 20 + [TO_SECOND, 0])
        self.assertEqual(guarded(SETS, "1" * 30, 0, 20), [TO_SECOND] + [0] * 20 + [TO_SECOND] + [0] * 10)

    def test_shift_to_and_fro_bounds_what_is_spoilt(self):
        self.assertEqual(guarded(SETS, "1a1", 0, 1), [TO_SECOND, 0, TO_FIRST, 0, TO_SECOND, 0])

    def test_common_codes_are_not_spoilt(self):
        self.assertEqual(guarded(ALIKE, "1---3", 0, 2), [TO_SECOND, 0, 1, 1, 1, 2])
        self.assertEqual(guarded(ALIKE, "--1", 0, 1), [1, 1, TO_SECOND, 0])
        self.assertEqual(guarded(ALIKE, "1--3", 0, 1), [TO_SECOND, 0, 1, 1, TO_SECOND, 2])

    def test_sign_in_both_sets_by_other_codes(self):
        self.assertEqual(guarded(CROSSED, "abab", 1, 0), [1, 0, 1, 0])
        # "b" may stand ahead of the shift, where no loss spoils it.
        self.assertEqual(guarded(("bxa", "1cb"), "ab1", 0, 1), [2, 0, 4, 0])

    def test_first_of_all_tapes(self):
        for sets in SMALL:
            for text in all_texts(sets, 3):
                for state in (0, 1):
                    for most in (0, 1, 2):
                        told = guarded(sets, text, state, most)
                        own = first_tape(sets, text, state, 9, most)
                        self.assertEqual(told, own, (sets, text, state, most))

    def test_first_of_all_tapes_of_longer_texts(self):
        for text in ("1111", "a1111", "11a11", "111a"):
            for most in (1, 2, 3):
                told = guarded(("a", "1"), text, 0, most)
                self.assertEqual(told, first_tape(("a", "1"), text, 0, 10, most), (text, most))

    def test_first_of_plainly_all_tapes(self):
        sets = ("a", "1")
        for text in all_texts(sets, 2):
            for most in (0, 1, 2):
                tapes = [tape for tape in all_tapes(sets, 6)
                         if text_read(sets, tape, 0) == text and most_lost(sets, tape, 0) <= most]
                self.assertEqual(guarded(sets, text, 0, most), tapes[0])

    def test_no_code_spoils_more(self):
        for most in (0, 1, 2, 20):
            for text in ("a1b2c3" * 8, "123" * 15 + "abc" * 15, "ab" + "1" * 41 + "c"):
                for state in (0, 1):
                    tape = guarded(SETS, text, state, most)
                    self.assertEqual(text_read(SETS, tape, state), text)
                    self.assertLessEqual(most_lost(SETS, tape, state), most)

    def test_as_least_where_that_spoils_no_more(self):
        for text in ("a1b2c3", "111aaa", "ab12"):
            for state in (0, 1):
                self.assertEqual(guarded(SETS, text, state, 20), least(SETS, text, state))

    def test_four_hundred_signs(self):
        self.assertEqual(guarded(SETS, "1" * 400, 0, 0), [TO_SECOND, TO_SECOND] + [0] * 400)
        text = "a1" * 200
        tape = guarded(SETS, text, 0, 0)
        self.assertEqual(len(tape), 400 + 2 * 399)
        self.assertEqual(text_read(SETS, tape, 0), text)
        self.assertEqual(guarded(SETS, text, 0, 1), least(SETS, text, 0))
        self.assertEqual(guarded(SETS, text, 0, 20), least(SETS, text, 0))

    def test_long_run_is_told_twice_as_late_as_can_be(self):
        # Once more is enough: behind it the state holds whichever of both is lost.
        self.assertEqual(guarded(SETS, "1" * 100, 0, 3), [TO_SECOND] + [0] * 3 + [TO_SECOND] + [0] * 97)

    def test_other_numbers(self):
        for most in (-1, 21, -20, 100):
            with self.assertRaises(BadNumber):
                guarded(SETS, "a1", 0, most)
            with self.assertRaises(BadNumber):
                guarded(SETS, "", 1, most)

    def test_each_number(self):
        for most in range(21):
            tape = guarded(SETS, "1" * 25, 0, most)
            self.assertEqual(len(tape), 27)
            self.assertEqual(most_lost(SETS, tape, 0), most)

    def test_no_sign(self):
        for text, at in (("xab", 0), ("a1x2", 2), ("ab1x", 3), ("a x y", 1)):
            with self.assertRaises(NoSign) as caught:
                guarded(SETS, text, 0, 1)
            self.assertEqual(caught.exception.at, at)

    def test_refused(self):
        with self.assertRaises(BadSets):
            guarded(("", ""), "", 0, 0)
        for state in (-1, 2):
            with self.assertRaises(BadNumber):
                guarded(SETS, "", state, 0)

    def test_kind_of_value(self):
        self.assertIs(type(guarded(SETS, "", 0, 0)), list)
        self.assertEqual([type(code) for code in guarded(SETS, "1", 0, 1)], [int, int])


if __name__ == "__main__":
    unittest.main()

import inspect
import unittest

from shiftrow.errors import BadNumber, BadSets, BadTape, TapeError
from shiftrow.sets import read

SETS = ("abc", "123")
TO_FIRST = 3
TO_SECOND = 4
TEN = ("abcdefghij", "0123456789")


class TestSets(unittest.TestCase):
    """Point [2]."""

    def refused(self, sets, why):
        with self.assertRaises(BadSets) as caught:
            read(sets, [], 0)
        self.assertEqual(caught.exception.why, why)
        self.assertIsInstance(caught.exception, TapeError)

    def test_one_sign_in_each(self):
        self.assertEqual(read(("a", "1"), [0, 2, 0, 1, 0], 0), ("a1a", 0))

    def test_ten_signs_in_each(self):
        self.assertEqual(read(TEN, [0, 9, 11, 0, 9, 10, 5], 0), ("aj09f", 0))

    def test_each_number_of_signs_between(self):
        for many in range(1, 11):
            sets = (TEN[0][:many], TEN[1][:many])
            tape = list(range(many)) + [many + 1] + list(range(many))
            self.assertEqual(read(sets, tape, 0), (sets[0] + sets[1], 1))

    def test_first_of_no_sign(self):
        self.refused(("", "1"), "first")

    def test_second_of_no_sign(self):
        self.refused(("a", ""), "second")

    def test_both_of_no_sign(self):
        self.refused(("", ""), "first")

    def test_first_of_eleven_signs(self):
        self.refused(("abcdefghijk", "0123456789"), "first")

    def test_second_of_eleven_signs(self):
        self.refused(("abcdefghij", "0123456789x"), "second")

    def test_both_of_eleven_signs(self):
        self.refused(("abcdefghijk", "0123456789x"), "first")

    def test_first_with_a_sign_twice(self):
        self.refused(("aba", "123"), "first")
        self.refused(("aab", "123"), "first")

    def test_second_with_a_sign_twice(self):
        self.refused(("abc", "121"), "second")
        self.refused(("abc", "133"), "second")

    def test_both_with_a_sign_twice(self):
        self.refused(("aa", "11"), "first")

    def test_not_as_many_signs(self):
        self.refused(("abc", "12"), "second")
        self.refused(("ab", "123"), "second")
        self.refused(("a", "0123456789"), "second")

    def test_first_is_told_also_if_not_as_many(self):
        self.refused(("aa", "1"), "first")
        self.refused(("", "11"), "first")

    def test_a_sign_may_stand_in_both(self):
        self.assertEqual(read(("abc", "cab"), [0, 1, 4, 0, 1], 0), ("abca", 1))
        self.assertEqual(read(("abc", "abc"), [2, 4, 2], 0), ("cc", 1))

    def test_any_sign_may_stand(self):
        self.assertEqual(read((" A\n", "a\\\u00e9"), [0, 1, 2, 4, 0, 1, 2], 0), (" A\na\\\u00e9", 1))


class TestTape(unittest.TestCase):
    """Point [3]."""

    def refused(self, sets, tape, at):
        for state in (0, 1):
            with self.assertRaises(BadTape) as caught:
                read(sets, tape, state)
            self.assertEqual(caught.exception.at, at)
            self.assertIsInstance(caught.exception, TapeError)

    def refused_state(self, tape, state):
        with self.assertRaises(BadNumber) as caught:
            read(SETS, tape, state)
        self.assertIsInstance(caught.exception, TapeError)

    def test_lowest_and_highest_codes(self):
        self.assertEqual(read(SETS, [0], 0), ("a", 0))
        self.assertEqual(read(SETS, [2], 0), ("c", 0))
        self.assertEqual(read(SETS, [0], 1), ("1", 1))
        self.assertEqual(read(SETS, [2], 1), ("3", 1))

    def test_both_shifts_in_both_states(self):
        self.assertEqual(read(SETS, [TO_FIRST], 0), ("", 0))
        self.assertEqual(read(SETS, [TO_FIRST], 1), ("", 0))
        self.assertEqual(read(SETS, [TO_SECOND], 0), ("", 1))
        self.assertEqual(read(SETS, [TO_SECOND], 1), ("", 1))

    def test_same_shift_twice(self):
        self.assertEqual(read(SETS, [TO_FIRST, TO_FIRST, 0], 1), ("a", 0))
        self.assertEqual(read(SETS, [TO_SECOND, TO_SECOND, 0], 0), ("1", 1))
        self.assertEqual(read(SETS, [TO_SECOND, 0, TO_SECOND, 0], 0), ("11", 1))

    def test_last_of_several_shifts_holds(self):
        self.assertEqual(read(SETS, [TO_SECOND, TO_FIRST, 0], 1), ("a", 0))
        self.assertEqual(read(SETS, [TO_FIRST, TO_SECOND, 0], 0), ("1", 1))

    def test_empty_tape(self):
        self.assertEqual(read(SETS, [], 0), ("", 0))
        self.assertEqual(read(SETS, [], 1), ("", 1))

    def test_code_too_low(self):
        self.refused(SETS, [-1], 0)
        self.refused(SETS, [0, 1, -3, 2], 2)

    def test_code_too_high(self):
        self.refused(SETS, [5], 0)
        self.refused(SETS, [0, TO_FIRST, TO_SECOND, 5], 3)
        self.refused(("a", "1"), [0, 1, 2, 3], 3)
        self.refused(TEN, [10, 11, 12], 2)

    def test_first_code_that_cannot_be(self):
        self.refused(SETS, [0, 5, -1, 99], 1)
        self.refused(SETS, [0, 1, -1, 5], 2)

    def test_two_hundred_codes(self):
        self.assertEqual(read(SETS, [0] * 200, 0), ("a" * 200, 0))
        self.assertEqual(read(SETS, [TO_SECOND] + [1] * 199, 0), ("2" * 199, 1))

    def test_more_than_two_hundred_codes(self):
        self.refused(SETS, [0] * 201, 200)
        self.refused(SETS, [TO_FIRST] * 201, 200)
        self.refused(SETS, [0] * 205, 200)
        self.refused(SETS, [0] * 200 + [5], 200)
        self.refused(SETS, [0] * 203 + [-1], 200)

    def test_earlier_code_of_a_long_tape(self):
        self.refused(SETS, [0] * 199 + [5, 0], 199)
        self.refused(SETS, [-1] + [0] * 200, 0)

    def test_last_code_of_a_full_tape(self):
        self.refused(SETS, [0] * 199 + [5], 199)

    def test_other_states(self):
        for state in (-1, 2, 3, 200):
            self.refused_state([], state)
            self.refused_state([TO_FIRST, 0], state)


class TestRead(unittest.TestCase):
    """Point [4]."""

    def test_begun_in_the_first_state(self):
        self.assertEqual(read(SETS, [0, 1, 4, 2, 3, 0], 0), ("ab3a", 0))
        self.assertEqual(read(SETS, [0, 1, 4, 2], 0), ("ab3", 1))

    def test_begun_in_the_second_state(self):
        self.assertEqual(read(SETS, [0, 1, 3, 2, 4, 0], 1), ("12c1", 1))
        self.assertEqual(read(SETS, [0, 1, 3, 2], 1), ("12c", 0))

    def test_shift_at_the_end(self):
        self.assertEqual(read(SETS, [0, TO_SECOND], 0), ("a", 1))
        self.assertEqual(read(SETS, [0, TO_FIRST], 1), ("1", 0))

    def test_signs_in_order_and_again(self):
        self.assertEqual(read(SETS, [2, 1, 0, 0, 1, 2], 0), ("cbaabc", 0))

    def test_kinds_of_values(self):
        told = read(SETS, [0, TO_SECOND], 0)
        self.assertIs(type(told), tuple)
        self.assertEqual([type(part) for part in told], [str, int])
        self.assertIs(type(read(SETS, [], 1)[1]), int)

    def test_interface(self):
        self.assertEqual(read.__module__, "shiftrow.sets")
        self.assertEqual(list(inspect.signature(read).parameters), ["sets", "tape", "state"])


class TestAllThatIsTold(unittest.TestCase):
    """Point [1], and the order of refusals."""

    def test_tape_stays_as_it_was(self):
        tape = [0, 4, 1, 3, 2]
        read(SETS, tape, 0)
        read(SETS, tape, 1)
        self.assertEqual(tape, [0, 4, 1, 3, 2])

    def test_refused_tape_stays_as_it_was(self):
        tape = [0, 4, 9]
        with self.assertRaises(BadTape):
            read(SETS, tape, 0)
        self.assertEqual(tape, [0, 4, 9])

    def test_tape_may_be_changed_behind(self):
        tape = [0, 4, 1]
        told = read(SETS, tape, 0)
        tape[0] = 2
        tape.append(3)
        self.assertEqual(told, ("a2", 1))
        self.assertEqual(read(SETS, tape, 0), ("c2", 0))

    def test_refused_tape_may_be_changed_behind(self):
        tape = [0, 9]
        with self.assertRaises(BadTape) as caught:
            read(SETS, tape, 0)
        tape[0] = 9
        self.assertEqual(caught.exception.at, 1)
        del tape[:]
        self.assertEqual(read(SETS, tape, 0), ("", 0))

    def test_same_answer_each_time(self):
        tape = [4, 0, 3, 1, 4]
        for _ in range(3):
            self.assertEqual(read(SETS, tape, 0), ("1b", 1))
            self.assertEqual(read(SETS, [1], 0), ("b", 0))
            self.assertEqual(read(("xyz", "789"), tape, 0), ("7y", 1))

    def test_same_refusal_each_time(self):
        for _ in range(3):
            with self.assertRaises(BadTape) as caught:
                read(SETS, [0, 5], 0)
            self.assertEqual(caught.exception.at, 1)
            caught.exception.at = 40

    def test_sets_are_refused_ahead_of_the_tape(self):
        with self.assertRaises(BadSets) as caught:
            read(("abc", "12"), [9], 0)
        self.assertEqual(caught.exception.why, "second")

    def test_sets_are_refused_ahead_of_the_state(self):
        with self.assertRaises(BadSets):
            read(("", ""), [], 2)

    def test_sets_are_refused_ahead_of_both(self):
        with self.assertRaises(BadSets):
            read(("", ""), [-1], 2)

    def test_tape_is_refused_ahead_of_the_state(self):
        with self.assertRaises(BadTape) as caught:
            read(SETS, [0, 5], 2)
        self.assertEqual(caught.exception.at, 1)
        with self.assertRaises(BadTape) as caught:
            read(SETS, [0] * 201, -1)
        self.assertEqual(caught.exception.at, 200)


if __name__ == "__main__":
    unittest.main()

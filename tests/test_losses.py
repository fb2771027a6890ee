import random
import unittest

from by_hand import number_spoilt, signs_read
from shiftrow.errors import BadNumber, BadSets, BadTape
from shiftrow.losses import by_state, losses, worst

SETS = ("abc", "123")
ALIKE = ("a-c", "1-3")  # code 1 is common
TO_FIRST = 3
TO_SECOND = 4


def some_tapes(many, seed):
    """Sets, tapes and states, the same ones each time."""
    chance = random.Random(seed)
    for _ in range(many):
        signs = chance.randint(1, 4)
        sets = ("".join(chance.sample("abcdef", signs)), "".join(chance.sample("abcdef", signs)))
        tape = [chance.randrange(signs + 2) for _ in range(chance.randrange(14))]
        yield sets, tape, chance.randrange(2)


class TestLosses(unittest.TestCase):
    """Point [5], `losses`."""

    def test_empty_tape(self):
        self.assertEqual(losses(SETS, [], 0), [])
        self.assertEqual(losses(SETS, [], 1), [])

    def test_lost_signs_spoil_none(self):
        self.assertEqual(losses(SETS, [0, 1, 2, 0], 0), [0, 0, 0, 0])
        self.assertEqual(losses(SETS, [0, 1, 2, 0], 1), [0, 0, 0, 0])

    def test_lost_shift_spoils_to_the_end(self):
        self.assertEqual(losses(SETS, [0, TO_SECOND, 1, 2, 0], 0), [0, 3, 0, 0, 0])
        self.assertEqual(losses(SETS, [0, TO_FIRST, 1, 2], 1), [0, 2, 0, 0])

    def test_lost_shift_spoils_to_the_next_shift(self):
        tape = [0, TO_SECOND, 1, 2, TO_FIRST, 0]
        self.assertEqual(losses(SETS, tape, 0), [0, 2, 0, 0, 1, 0])

    def test_shift_to_the_state_that_holds(self):
        self.assertEqual(losses(SETS, [TO_FIRST, 0, 1], 0), [0, 0, 0])
        self.assertEqual(losses(SETS, [TO_SECOND, 0, 1], 1), [0, 0, 0])
        self.assertEqual(losses(SETS, [TO_FIRST, 0, 1], 1), [2, 0, 0])
        self.assertEqual(losses(SETS, [TO_SECOND, 0, 1], 0), [2, 0, 0])

    def test_shift_told_twice(self):
        self.assertEqual(losses(SETS, [TO_SECOND, TO_SECOND, 0, 1], 0), [0, 0, 0, 0])
        self.assertEqual(losses(SETS, [TO_SECOND, 0, TO_SECOND, 1, 2], 0), [1, 0, 0, 0, 0])

    def test_shift_behind_which_another_stands(self):
        self.assertEqual(losses(SETS, [TO_SECOND, TO_FIRST, 0, 1], 0), [0, 2, 0, 0])
        self.assertEqual(losses(SETS, [TO_SECOND, TO_FIRST, 0, 1], 1), [0, 2, 0, 0])
        self.assertEqual(losses(SETS, [TO_FIRST, TO_SECOND, 0], 0), [0, 1, 0])

    def test_shift_at_the_end(self):
        self.assertEqual(losses(SETS, [0, TO_SECOND], 0), [0, 0])

    def test_signs_that_are_alike_in_both_sets(self):
        self.assertEqual(losses(ALIKE, [TO_SECOND, 1, 0, 1, 2], 0), [2, 0, 0, 0, 0])
        self.assertEqual(losses(ALIKE, [TO_SECOND, 1, 1], 0), [0, 0, 0])
        self.assertEqual(losses(("abc", "abc"), [TO_SECOND, 0, 1, 2], 0), [0, 0, 0, 0])

    def test_a_sign_of_other_codes_is_not_alike(self):
        self.assertEqual(losses(("ab", "ba"), [3, 0, 1], 0), [2, 0, 0])

    def test_two_hundred_codes(self):
        self.assertEqual(losses(SETS, [TO_SECOND] + [0] * 199, 0), [199] + [0] * 199)

    def test_code_by_code_against_what_is_left(self):
        for sets, tape, state in some_tapes(600, 1):
            own = [number_spoilt(sets, tape, state, lost) for lost in range(len(tape))]
            self.assertEqual(losses(sets, tape, state), own, (sets, tape, state))

    def test_kinds_of_values(self):
        told = losses(SETS, [0, TO_SECOND, 1], 0)
        self.assertIs(type(told), list)
        self.assertEqual([type(signs) for signs in told], [int, int, int])

    def test_refused(self):
        with self.assertRaises(BadSets):
            losses(("", ""), [], 0)
        with self.assertRaises(BadTape):
            losses(SETS, [5], 0)
        for state in (-1, 2):
            with self.assertRaises(BadNumber):
                losses(SETS, [], state)


class TestWorst(unittest.TestCase):
    """Point [5], `worst`."""

    def test_empty_tape(self):
        self.assertEqual(worst(SETS, [], 0), (0, None))
        self.assertEqual(worst(SETS, [], 1), (0, None))

    def test_one_most(self):
        self.assertEqual(worst(SETS, [0, TO_SECOND, 1, TO_FIRST, 0, 1, 2], 0), (3, 3))

    def test_first_of_several_of_the_most(self):
        tape = [0, TO_SECOND, 1, TO_FIRST, 0, 1, TO_SECOND, 0, 1, TO_FIRST, 2]
        self.assertEqual(worst(SETS, tape, 0), (2, 3))

    def test_all_none(self):
        self.assertEqual(worst(SETS, [0, 1, 2], 0), (0, 0))
        self.assertEqual(worst(SETS, [TO_SECOND], 0), (0, 0))
        self.assertEqual(worst(SETS, [TO_SECOND, TO_SECOND, 1], 0), (0, 0))

    def test_both_states(self):
        self.assertEqual(worst(SETS, [TO_SECOND, 0, 1], 0), (2, 0))
        self.assertEqual(worst(SETS, [0, TO_SECOND, 0, 1], 1), (0, 0))

    def test_first_of_the_most_of_all_losses(self):
        for sets, tape, state in some_tapes(300, 2):
            own = [number_spoilt(sets, tape, state, lost) for lost in range(len(tape))]
            told = (max(own), own.index(max(own))) if own else (0, None)
            self.assertEqual(worst(sets, tape, state), told, (sets, tape, state))

    def test_kind_of_value(self):
        self.assertIs(type(worst(SETS, [], 0)), tuple)
        self.assertIs(type(worst(SETS, [0], 0)), tuple)

    def test_refused(self):
        with self.assertRaises(BadSets):
            worst(("", ""), [], 0)
        with self.assertRaises(BadTape):
            worst(SETS, [5], 0)
        for state in (-1, 2):
            with self.assertRaises(BadNumber):
                worst(SETS, [], state)


class TestByState(unittest.TestCase):
    """Point [5], `by_state`."""

    def test_empty_tape(self):
        self.assertEqual(by_state(SETS, []), 0)

    def test_without_shifts(self):
        self.assertEqual(by_state(SETS, [0, 1, 2, 0]), 4)

    def test_to_the_first_shift(self):
        self.assertEqual(by_state(SETS, [0, 1, TO_SECOND, 2, 0]), 2)
        self.assertEqual(by_state(SETS, [0, 1, 2, TO_FIRST, 2, TO_SECOND, 0]), 3)

    def test_shift_at_the_start(self):
        self.assertEqual(by_state(SETS, [TO_FIRST, 0, 1]), 0)
        self.assertEqual(by_state(SETS, [TO_SECOND, 0, 1]), 0)

    def test_common_codes(self):
        self.assertEqual(by_state(ALIKE, [1, 1]), 0)
        self.assertEqual(by_state(ALIKE, [1, 0, 1, 2, TO_FIRST, 0]), 2)
        self.assertEqual(by_state(("ab", "ba"), [0, 1]), 2)

    def test_against_both_readings(self):
        for sets, tape, _ in some_tapes(300, 3):
            first = signs_read(sets, tape, 0)
            second = signs_read(sets, tape, 1)
            own = sum(1 for number in first if first[number] != second[number])
            self.assertEqual(by_state(sets, tape), own, (sets, tape))

    def test_kind_of_value(self):
        self.assertIs(type(by_state(SETS, [0])), int)

    def test_refused(self):
        with self.assertRaises(BadSets):
            by_state(("", ""), [])
        with self.assertRaises(BadTape):
            by_state(SETS, [0, 5])


if __name__ == "__main__":
    unittest.main()

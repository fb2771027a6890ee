import itertools
import random
import unittest

from by_hand import all_tapes, text_read
from shiftrow.errors import BadNumber, BadSets, BadTape
from shiftrow.writing import cut, joined, trimmed

SETS = ("abc", "123")
ALIKE = ("a-c", "1-3")  # code 1 is common
TO_FIRST = 3
TO_SECOND = 4


def some_sets(chance):
    signs = chance.randint(1, 4)
    return "".join(chance.sample("abcdef", signs)), "".join(chance.sample("abcdef", signs))


def some_tape(chance, sets):
    return [chance.randrange(len(sets[0]) + 2) for _ in range(chance.randrange(12))]


class TestTrimmed(unittest.TestCase):
    """Point [8]."""

    def test_nothing_to_trim(self):
        self.assertEqual(trimmed(SETS, [], 0), [])
        self.assertEqual(trimmed(SETS, [0, 1, 2], 1), [0, 1, 2])
        self.assertEqual(trimmed(SETS, [0, TO_SECOND, 1, TO_FIRST, 2], 0), [0, TO_SECOND, 1, TO_FIRST, 2])

    def test_at_the_start(self):
        self.assertEqual(trimmed(SETS, [TO_FIRST, 0], 0), [0])
        self.assertEqual(trimmed(SETS, [TO_SECOND, 0], 1), [0])
        self.assertEqual(trimmed(SETS, [TO_FIRST, 0], 1), [TO_FIRST, 0])
        self.assertEqual(trimmed(SETS, [TO_SECOND, 0], 0), [TO_SECOND, 0])

    def test_in_the_middle(self):
        self.assertEqual(trimmed(SETS, [0, TO_FIRST, 1], 0), [0, 1])
        self.assertEqual(trimmed(SETS, [TO_SECOND, 0, TO_SECOND, 1], 0), [TO_SECOND, 0, 1])

    def test_at_the_end(self):
        self.assertEqual(trimmed(SETS, [0, TO_SECOND], 0), [0])
        self.assertEqual(trimmed(SETS, [0, TO_SECOND, TO_FIRST], 0), [0])
        self.assertEqual(trimmed(SETS, [TO_SECOND, TO_FIRST, TO_SECOND], 0), [])

    def test_several_in_a_row(self):
        self.assertEqual(trimmed(SETS, [0, TO_SECOND, TO_FIRST, TO_SECOND, 1], 0), [0, TO_SECOND, 1])
        self.assertEqual(trimmed(SETS, [0, TO_SECOND, TO_FIRST, 1], 0), [0, 1])
        self.assertEqual(trimmed(SETS, [TO_SECOND, TO_SECOND, 1], 0), [TO_SECOND, 1])

    def test_common_codes(self):
        self.assertEqual(trimmed(ALIKE, [TO_SECOND, 1, 1], 0), [1, 1])
        self.assertEqual(trimmed(ALIKE, [TO_SECOND, 1, 0], 0), [1, TO_SECOND, 0])
        self.assertEqual(trimmed(ALIKE, [TO_SECOND, 1, TO_FIRST, 0], 0), [1, 0])
        self.assertEqual(trimmed(ALIKE, [TO_SECOND, 0, TO_FIRST, 1, TO_SECOND, 2], 0), [TO_SECOND, 0, 1, 2])

    def test_fewest_shifts_of_all_tapes(self):
        for sets in (("a", "1"), ("ab", "1b"), ("ab", "ba")):
            signs = len(sets[0])
            for tape in all_tapes(sets, 4):
                for state in (0, 1):
                    self.check_fewest(sets, tape, state, signs)

    def check_fewest(self, sets, tape, state, signs):
        told = trimmed(sets, tape, state)
        codes = [code for code in tape if code < signs]
        self.assertEqual([code for code in told if code < signs], codes)
        text = text_read(sets, tape, state)
        self.assertEqual(text_read(sets, told, state), text)
        own = min(
            sum(1 for shift in shifts if shift is not None)
            for shifts in itertools.product((None, signs, signs + 1), repeat=len(codes))
            if text_read(sets, self.with_shifts(codes, shifts), state) == text
        )
        self.assertEqual(len(told) - len(codes), own, (sets, tape, state))

    @staticmethod
    def with_shifts(codes, shifts):
        tape = []
        for code, shift in zip(codes, shifts):
            if shift is not None:
                tape.append(shift)
            tape.append(code)
        return tape

    def test_shifts_stand_just_ahead_of_codes_that_are_not_common(self):
        chance = random.Random(4)
        for _ in range(300):
            sets = some_sets(chance)
            signs = len(sets[0])
            tape = trimmed(sets, some_tape(chance, sets), chance.randrange(2))
            for number, code in enumerate(tape):
                if code >= signs:
                    self.assertLess(number + 1, len(tape))
                    self.assertLess(tape[number + 1], signs)
                    self.assertNotEqual(sets[0][tape[number + 1]], sets[1][tape[number + 1]])

    def test_trimmed_twice(self):
        chance = random.Random(5)
        for _ in range(300):
            sets = some_sets(chance)
            state = chance.randrange(2)
            once = trimmed(sets, some_tape(chance, sets), state)
            self.assertEqual(trimmed(sets, once, state), once)

    def test_two_hundred_codes(self):
        self.assertEqual(trimmed(SETS, [TO_SECOND] * 199 + [0], 0), [TO_SECOND, 0])
        self.assertEqual(trimmed(SETS, [0] * 200, 0), [0] * 200)

    def test_refused(self):
        with self.assertRaises(BadSets):
            trimmed(("", ""), [], 0)
        with self.assertRaises(BadTape):
            trimmed(SETS, [5], 0)
        for state in (-1, 2):
            with self.assertRaises(BadNumber):
                trimmed(SETS, [], state)

    def test_kind_of_value(self):
        self.assertIs(type(trimmed(SETS, [], 0)), list)


class TestJoined(unittest.TestCase):
    """Point [9], `joined`."""

    def test_without_the_shift_between(self):
        self.assertEqual(joined(SETS, [0, 1], [2]), [0, 1, 2])
        self.assertEqual(joined(SETS, [TO_SECOND, 1, TO_FIRST], [2]), [TO_SECOND, 1, TO_FIRST, 2])

    def test_with_the_shift_between(self):
        self.assertEqual(joined(SETS, [TO_SECOND, 1], [2]), [TO_SECOND, 1, TO_FIRST, 2])
        self.assertEqual(joined(SETS, [TO_SECOND], [0, TO_SECOND, 1]),
                         [TO_SECOND, TO_FIRST, 0, TO_SECOND, 1])

    def test_other_begins_with_a_shift(self):
        self.assertEqual(joined(SETS, [TO_SECOND, 1], [TO_SECOND, 2]), [TO_SECOND, 1, TO_SECOND, 2])
        self.assertEqual(joined(SETS, [TO_SECOND, 1], [TO_FIRST, 2]), [TO_SECOND, 1, TO_FIRST, 2])

    def test_common_codes(self):
        self.assertEqual(joined(ALIKE, [TO_SECOND, 0], [1, 1]), [TO_SECOND, 0, 1, 1])
        self.assertEqual(joined(ALIKE, [TO_SECOND, 0], [1, TO_FIRST, 0]), [TO_SECOND, 0, 1, TO_FIRST, 0])
        self.assertEqual(joined(ALIKE, [TO_SECOND, 0], [1, 0]), [TO_SECOND, 0, TO_FIRST, 1, 0])

    def test_empty_tapes(self):
        self.assertEqual(joined(SETS, [], []), [])
        self.assertEqual(joined(SETS, [], [0, TO_SECOND]), [0, TO_SECOND])
        self.assertEqual(joined(SETS, [0, TO_SECOND], []), [0, TO_SECOND])

    def test_needless_shifts_stay(self):
        self.assertEqual(joined(SETS, [TO_FIRST, TO_SECOND], [TO_FIRST, 0, TO_FIRST]),
                         [TO_FIRST, TO_SECOND, TO_FIRST, 0, TO_FIRST])

    def test_ninety_six_codes(self):
        one = [TO_SECOND] + [0] * 95
        self.assertEqual(joined(SETS, one, [1] * 96), one + [TO_FIRST] + [1] * 96)
        self.assertEqual(joined(SETS, [1] * 96, one), [1] * 96 + one)

    def test_tape_with_itself(self):
        one = [0, TO_SECOND, 1]
        self.assertEqual(joined(SETS, one, one), [0, TO_SECOND, 1, TO_FIRST, 0, TO_SECOND, 1])

    def test_read_as_both_were(self):
        chance = random.Random(6)
        for _ in range(400):
            sets = some_sets(chance)
            one = some_tape(chance, sets)
            other = some_tape(chance, sets)
            told = joined(sets, one, other)
            both = text_read(sets, one, 0) + text_read(sets, other, 0)
            self.assertEqual(text_read(sets, told, 0), both)
            needless = text_read(sets, one + other, 0) == both
            own = one + other if needless else one + [len(sets[0])] + other
            self.assertEqual(told, own, (sets, one, other))

    def test_refused(self):
        with self.assertRaises(BadSets):
            joined(("", ""), [], [])
        for one, other, at in (([0, 5], [], 1), ([], [0, 0, 9], 2), ([0, 0, 5], [-1], 2),
                               ([0] * 201, [-1], 200), ([], [0] * 201, 200)):
            with self.assertRaises(BadTape) as caught:
                joined(SETS, one, other)
            self.assertEqual(caught.exception.at, at)

    def test_kind_of_value(self):
        self.assertIs(type(joined(SETS, [], [])), list)


class TestCut(unittest.TestCase):
    """Point [9], `cut`."""

    def test_at_the_start(self):
        self.assertEqual(cut(SETS, [0, TO_SECOND, 1], 0), ([], [0, TO_SECOND, 1]))

    def test_in_the_middle(self):
        self.assertEqual(cut(SETS, [0, 1, 2], 1), ([0], [1, 2]))
        self.assertEqual(cut(SETS, [0, TO_SECOND, 1], 1), ([0], [TO_SECOND, 1]))
        self.assertEqual(cut(SETS, [0, TO_SECOND, 1, 2], 2), ([0, TO_SECOND], [TO_SECOND, 1, 2]))
        self.assertEqual(cut(SETS, [0, TO_SECOND, 1, 2], 3), ([0, TO_SECOND, 1], [TO_SECOND, 2]))

    def test_at_the_end(self):
        self.assertEqual(cut(SETS, [0, TO_SECOND, 1], 3), ([0, TO_SECOND, 1], []))
        self.assertEqual(cut(SETS, [], 0), ([], []))

    def test_ahead_of_a_shift(self):
        self.assertEqual(cut(SETS, [TO_SECOND, 0, TO_FIRST, 1], 2), ([TO_SECOND, 0], [TO_FIRST, 1]))
        self.assertEqual(cut(SETS, [TO_SECOND, 0, TO_SECOND, 1], 2), ([TO_SECOND, 0], [TO_SECOND, 1]))

    def test_common_codes(self):
        self.assertEqual(cut(ALIKE, [TO_SECOND, 0, 1, 1], 2), ([TO_SECOND, 0], [1, 1]))
        self.assertEqual(cut(ALIKE, [TO_SECOND, 0, 1, 2], 2), ([TO_SECOND, 0], [TO_SECOND, 1, 2]))
        self.assertEqual(cut(ALIKE, [TO_SECOND, 0, 1, TO_SECOND, 2], 2),
                         ([TO_SECOND, 0], [1, TO_SECOND, 2]))

    def test_ninety_six_codes(self):
        tape = [TO_SECOND] + [0] * 95
        for at in (1, 50, 95):
            self.assertEqual(cut(SETS, tape, at), (tape[:at], [TO_SECOND] + tape[at:]))
        self.assertEqual(cut(SETS, tape, 96), (tape, []))

    def test_both_pieces_are_read_as_the_tape(self):
        chance = random.Random(7)
        for _ in range(200):
            sets = some_sets(chance)
            tape = some_tape(chance, sets)
            for at in range(len(tape) + 1):
                self.check_pieces(sets, tape, at)

    def check_pieces(self, sets, tape, at):
        ahead, behind = cut(sets, tape, at)
        text = text_read(sets, tape, 0)
        self.assertEqual(ahead, tape[:at])
        self.assertEqual(text_read(sets, ahead, 0) + text_read(sets, behind, 0), text)
        needless = text_read(sets, ahead, 0) + text_read(sets, tape[at:], 0) == text
        own = tape[at:] if needless else [len(sets[0]) + 1] + tape[at:]
        self.assertEqual(behind, own, (sets, tape, at))

    def test_other_places(self):
        for tape, at in (([], -1), ([], 1), ([0, 1], -1), ([0, 1], 3), ([0, 1], -2), ([0] * 96, 97)):
            with self.assertRaises(BadNumber):
                cut(SETS, tape, at)

    def test_refused(self):
        with self.assertRaises(BadSets):
            cut(("", ""), [], 0)
        with self.assertRaises(BadTape) as caught:
            cut(SETS, [0, 0, 5], 1)
        self.assertEqual(caught.exception.at, 2)

    def test_kind_of_value(self):
        told = cut(SETS, [0, TO_SECOND, 1], 2)
        self.assertIs(type(told), tuple)
        self.assertEqual([type(piece) for piece in told], [list, list])


if __name__ == "__main__":
    unittest.main()

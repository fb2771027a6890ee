"""What holds for every function of the interface: points [1] to [3] and the order of refusals."""

import copy
import inspect
import unittest

from shiftrow.errors import BadNumber, BadSets, BadTape, BadText, NoSign, TapeError
from shiftrow.losses import by_state, losses, worst
from shiftrow.notes import read_tape, written
from shiftrow.sets import read
from shiftrow.writing import cut, guarded, joined, least, trimmed

SETS = ("abc", "1b3")
LONG = [0] * 201

# Each function with its file, the names of its arguments, and arguments that can be.
INTERFACE = (
    (read, "shiftrow.sets", "sets tape state", (SETS, [0, 4, 1, 2], 0)),
    (losses, "shiftrow.losses", "sets tape state", (SETS, [0, 4, 1, 2], 0)),
    (worst, "shiftrow.losses", "sets tape state", (SETS, [0, 4, 1, 2], 0)),
    (by_state, "shiftrow.losses", "sets tape", (SETS, [0, 1, 2, 4, 1])),
    (least, "shiftrow.writing", "sets text state", (SETS, "ab13c", 0)),
    (guarded, "shiftrow.writing", "sets text state most", (SETS, "ab13c", 0, 1)),
    (trimmed, "shiftrow.writing", "sets tape state", (SETS, [4, 0, 4, 1, 2, 3], 0)),
    (joined, "shiftrow.writing", "sets one other", (SETS, [0, 4, 1], [2, 0])),
    (cut, "shiftrow.writing", "sets tape at", (SETS, [0, 4, 2, 0], 3)),
    (written, "shiftrow.notes", "sets tape", (SETS, [0, 4, 1])),
    (read_tape, "shiftrow.notes", "sets text", (SETS, "0 4 1")),
)

# What each kind of argument is refused with: the argument, the error, and its value.
BAD_SETS = (
    (("", "123"), BadSets, ("why", "first")),
    (("abcdefghijk", "0123456789-"), BadSets, ("why", "first")),
    (("aba", "123"), BadSets, ("why", "first")),
    (("aa", "1"), BadSets, ("why", "first")),
    (("abc", ""), BadSets, ("why", "second")),
    (("abc", "12"), BadSets, ("why", "second")),
    (("abc", "1234"), BadSets, ("why", "second")),
    (("abcdefghij", "0123456789-"), BadSets, ("why", "second")),
    (("abc", "112"), BadSets, ("why", "second")),
)
BAD_TAPES = (
    ([-1], BadTape, ("at", 0)),
    ([0, 4, 5, -1], BadTape, ("at", 2)),
    (LONG, BadTape, ("at", 200)),
    (LONG + [9], BadTape, ("at", 200)),
    ([0] * 199 + [5, 0, 0], BadTape, ("at", 199)),
)
BAD_STATES = ((-1, BadNumber, None), (2, BadNumber, None), (20, BadNumber, None))
BAD = {
    "sets": BAD_SETS,
    "tape": BAD_TAPES,
    "one": BAD_TAPES,
    "other": BAD_TAPES,
    "state": BAD_STATES,
    "most": ((-1, BadNumber, None), (21, BadNumber, None)),
    "at": ((-1, BadNumber, None), (5, BadNumber, None)),
}
BAD_TEXTS = {
    "least": (("x", NoSign, ("at", 0)), ("ab2y", NoSign, ("at", 2))),
    "guarded": (("x", NoSign, ("at", 0)), ("ab2y", NoSign, ("at", 2))),
    "read_tape": (
        ("x", BadText, ("place", 0)),
        ("9 1 01", BadText, ("place", 2)),
        ("1 9", BadTape, ("at", 1)),
    ),
}


def bad_arguments(function, name):
    return BAD_TEXTS[function.__name__] if name == "text" else BAD[name]


def lists_in(told):
    """The lists among what is told."""
    if isinstance(told, list):
        return [told]
    return [part for part in told if isinstance(part, list)] if isinstance(told, tuple) else []


class TestInterface(unittest.TestCase):
    def test_names_and_arguments(self):
        for function, module, names, _ in INTERFACE:
            with self.subTest(function=function.__name__):
                self.assertEqual(function.__module__, module)
                self.assertEqual(list(inspect.signature(function).parameters), names.split())

    def test_arguments_may_be_handed_in_by_name(self):
        for function, _, names, arguments in INTERFACE:
            with self.subTest(function=function.__name__):
                by_name = dict(zip(names.split(), arguments))
                self.assertEqual(function(**by_name), function(*arguments))


class TestRefusals(unittest.TestCase):
    """Points [2] and [3]: each argument, and the first of several that cannot be."""

    def refused(self, function, arguments, error, value):
        with self.assertRaises(TapeError) as caught:
            function(*arguments)
        self.assertIs(type(caught.exception), error, (function.__name__, arguments))
        if value is not None:
            self.assertEqual(getattr(caught.exception, value[0]), value[1], (function.__name__, arguments))

    def test_each_argument(self):
        for function, _, names, arguments in INTERFACE:
            for number, name in enumerate(names.split()):
                for bad, error, value in bad_arguments(function, name):
                    handed = list(arguments)
                    handed[number] = bad
                    self.refused(function, handed, error, value)

    def test_first_of_two(self):
        for function, _, names, arguments in INTERFACE:
            words = names.split()
            for first in range(len(words)):
                for second in range(first + 1, len(words)):
                    self.check_both(function, words, arguments, first, second)

    def check_both(self, function, words, arguments, first, second):
        for bad, error, value in bad_arguments(function, words[first]):
            for behind, _, _ in bad_arguments(function, words[second]):
                handed = list(arguments)
                handed[first] = bad
                handed[second] = behind
                self.refused(function, handed, error, value)

    def test_all_at_once(self):
        for function, _, names, _ in INTERFACE:
            handed = [bad_arguments(function, name)[0][0] for name in names.split()]
            self.refused(function, handed, BadSets, ("why", "first"))

    def test_nothing_is_read_ahead_of_the_sets(self):
        for function, _, names, arguments in INTERFACE:
            handed = [("", "1")] + list(arguments[1:])
            self.refused(function, handed, BadSets, ("why", "first"))


class TestWhatIsHandedInAndTold(unittest.TestCase):
    """Point [1]."""

    def test_nothing_that_is_handed_in_is_changed(self):
        for function, _, _, arguments in INTERFACE:
            with self.subTest(function=function.__name__):
                handed = copy.deepcopy(arguments)
                function(*handed)
                self.assertEqual(handed, arguments)

    def test_nothing_that_is_refused_is_changed(self):
        for function, _, names, arguments in INTERFACE:
            for number, name in enumerate(names.split()):
                for bad, _, _ in bad_arguments(function, name):
                    handed = list(copy.deepcopy(arguments))
                    handed[number] = copy.deepcopy(bad)
                    before = copy.deepcopy(handed)
                    with self.assertRaises(TapeError):
                        function(*handed)
                    self.assertEqual(handed, before)

    def test_what_is_handed_in_may_be_changed_behind(self):
        for function, _, _, arguments in INTERFACE:
            with self.subTest(function=function.__name__):
                handed = copy.deepcopy(arguments)
                told = function(*handed)
                before = copy.deepcopy(told)
                for tape in lists_in(handed):
                    tape.clear()
                    tape.append(99)
                self.assertEqual(told, before)
                self.assertEqual(function(*copy.deepcopy(arguments)), before)

    def test_what_is_told_may_be_changed(self):
        for function, _, _, arguments in INTERFACE:
            with self.subTest(function=function.__name__):
                handed = copy.deepcopy(arguments)
                told = function(*handed)
                before = copy.deepcopy(told)
                for tape in lists_in(told):
                    tape.append(99)
                    tape[0] = 99
                self.assertEqual(handed, arguments)
                self.assertEqual(function(*handed), before)

    def test_what_is_told_is_never_what_was_handed_in(self):
        one = [0, 1]
        empty = []
        self.assertIsNot(joined(SETS, one, empty), one)
        self.assertIsNot(joined(SETS, empty, one), one)
        self.assertIsNot(joined(SETS, empty, empty), empty)
        self.assertIsNot(trimmed(SETS, one, 0), one)
        for at in (0, 1, 2):
            for piece in cut(SETS, one, at):
                self.assertIsNot(piece, one)
        ahead, behind = cut(SETS, empty, 0)
        self.assertIsNot(ahead, behind)
        self.assertIsNot(least(SETS, "", 0), least(SETS, "", 0))
        self.assertIsNot(read_tape(SETS, ""), read_tape(SETS, ""))
        self.assertIsNot(losses(SETS, [], 0), losses(SETS, [], 0))

    def test_same_answer_each_time(self):
        first = [function(*arguments) for function, _, _, arguments in INTERFACE]
        others = [function(("xyz", "zyx"), *arguments[1:]) for function, _, names, arguments in INTERFACE
                  if "text" not in names]
        for _ in range(3):
            self.assertEqual([function(*arguments) for function, _, _, arguments in INTERFACE], first)
            self.assertEqual([function(("xyz", "zyx"), *arguments[1:])
                              for function, _, names, arguments in INTERFACE
                              if "text" not in names], others)

    def test_same_answer_behind_a_refusal(self):
        for function, _, _, arguments in INTERFACE:
            told = function(*arguments)
            with self.assertRaises(BadSets):
                function(("", ""), *arguments[1:])
            self.assertEqual(function(*arguments), told)

    def test_numbers_are_whole(self):
        self.assertEqual([type(part) for part in worst(SETS, [4, 0], 0)], [int, int])
        self.assertIs(type(by_state(SETS, [])), int)
        self.assertIs(type(read(SETS, [4], 0)[1]), int)


if __name__ == "__main__":
    unittest.main()

"""Tapes as texts of words."""

from shiftrow.errors import BadText
from shiftrow.sets import check_sets, check_tape

FIGURES = "0123456789"


def is_number(word):
    """Tell whether a word is a number of one or two figures without a needless 0."""
    if not all([sign in FIGURES for sign in word]):
        return False
    return len(word) == 1 or (len(word) == 2 and word[0] != "0")


def written(sets, tape):
    """Tell the tape as a text: its codes, one blank between."""
    check_sets(sets)
    check_tape(sets, tape)
    return " ".join([str(code) for code in tape])


def read_tape(sets, text):
    """Tell the tape that is written as the text."""
    check_sets(sets)
    words = text.split(" ") if text else []
    for place, word in enumerate(words):
        if not is_number(word):
            raise BadText(place)
    tape = [int(word) for word in words]
    check_tape(sets, tape)
    return tape

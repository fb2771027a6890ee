"""Slow ways to the same answers, which use nothing of the package."""

import itertools


def signs_read(sets, tape, state, lost=None):
    """The sign by the number of its code, with one code left out if it is lost."""
    many = len(sets[0])
    signs = {}
    for number, code in enumerate(tape):
        if number == lost:
            continue
        if code == many:
            state = 0
        elif code == many + 1:
            state = 1
        else:
            signs[number] = sets[state][code]
    return signs


def text_read(sets, tape, state):
    signs = signs_read(sets, tape, state)
    return "".join(signs[number] for number in sorted(signs))


def number_spoilt(sets, tape, state, lost):
    """How many signs are read otherwise if the code is lost, but for itself."""
    whole = signs_read(sets, tape, state)
    rest = signs_read(sets, tape, state, lost)
    return sum(1 for number in rest if rest[number] != whole[number])


def all_tapes(sets, most_codes):
    """All tapes, the shortest first, of as short ones the least list first."""
    for many in range(most_codes + 1):
        for codes in itertools.product(range(len(sets[0]) + 2), repeat=many):
            yield list(codes)


def all_tapes_of(sets, text, state, most_codes):
    """All tapes that are read as the text, in the order of all_tapes."""
    signs = len(sets[0])
    rows = [([], "", state)]
    for many in range(most_codes + 1):
        for tape, told, _ in rows:
            if told == text:
                yield tape
        longer = []
        for tape, told, now in rows:
            for code in range(signs + 2):
                more = told if code >= signs else told + sets[now][code]
                if text.startswith(more):
                    longer.append((tape + [code], more, code - signs if code >= signs else now))
        rows = longer


def first_tape(sets, text, state, most_codes, most_spoilt=None):
    """The first of all tapes of the text of which no lost code spoils more."""
    for tape in all_tapes_of(sets, text, state, most_codes):
        spoilt = [number_spoilt(sets, tape, state, lost) for lost in range(len(tape))]
        if most_spoilt is None or max(spoilt, default=0) <= most_spoilt:
            return tape
    return None


def all_texts(sets, most_signs):
    signs = sorted(set(sets[0] + sets[1]))
    for many in range(most_signs + 1):
        for text in itertools.product(signs, repeat=many):
            yield "".join(text)

"""Sets of signs, and how a tape is read."""

from shiftrow.errors import BadNumber, BadSets, BadTape

MOST_SIGNS = 10
MOST_CODES = 200


def can_be_set(text):
    return 1 <= len(text) <= MOST_SIGNS and len(set(text)) == len(text)


def check_sets(sets):
    first, second = sets
    if not can_be_set(first):
        raise BadSets("first")
    if len(second) != len(first) or not can_be_set(second):
        raise BadSets("second")


def check_tape(sets, tape):
    """Refuse the tape; the sets are checked ahead of it."""
    last = len(sets[0]) + 1
    for at, code in enumerate(tape):
        if at == MOST_CODES or not 0 <= code <= last:
            raise BadTape(at)


def check_state(state):
    if state not in (0, 1):
        raise BadNumber("a state is 0 or 1")


def is_common(sets, code):
    """Tell whether a code of a sign reads alike in both states."""
    return sets[0][code] == sets[1][code]


def read(sets, tape, state):
    """Tell what the tape reads as, begun in the state, and the state behind it."""
    check_sets(sets)
    check_tape(sets, tape)
    check_state(state)
    many = len(sets[0])
    signs = []
    now = state
    for code in tape:
        if code < many:
            signs.append(sets[now][code])
        else:
            now = code - many
    return "".join(signs), now

"""How many signs are spoilt where a code is lost, or a tape is begun in the other state."""

from shiftrow.sets import check_sets, check_state, check_tape, is_common


def spoilt(sets, codes):
    """Tell how many signs the codes read otherwise if begun in the other state."""
    many = len(sets[0])
    signs = 0
    for code in codes:
        # Behind any shift the state is the same again, whatever it was ahead of it.
        if code >= many:
            break
        if not is_common(sets, code):
            signs += 1
    return signs


def losses(sets, tape, state):
    """Tell for each code how many signs its loss spoils."""
    check_sets(sets)
    check_tape(sets, tape)
    check_state(state)
    many = len(sets[0])
    found = []
    now = state
    for at, code in enumerate(tape):
        signs = 0
        if code >= many:
            if code - many != now:
                signs = spoilt(sets, tape[at + 1:])
            now = code - many
        found.append(signs)
    return found


def worst(sets, tape, state):
    """Tell the most signs that the loss of a code spoils, and the number of the first such code."""
    found = losses(sets, tape, state)
    if not found:
        return 0, None
    most = max(found)
    return most, found.index(most)


def by_state(sets, tape):
    """Tell how many signs are read otherwise if the tape is begun in the other state."""
    check_sets(sets)
    check_tape(sets, tape)
    return spoilt(sets, tape)

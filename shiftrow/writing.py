"""The shortest tapes of a text, and tapes trimmed, joined and cut."""

from shiftrow.errors import BadNumber, NoSign
from shiftrow.losses import spoilt
from shiftrow.sets import check_sets, check_state, check_tape, is_common, read

MOST_SPOILT = 20

# What is left is how many more signs the loss of the shift ahead may spoil. It is FREE where
# that loss spoils none (or there is no such shift), and where all losses are let pass.
FREE = -1

# Longer than any tape.
NEVER = 1000000


def check_text(sets, text):
    for at, sign in enumerate(text):
        if sign not in sets[0] and sign not in sets[1]:
            raise NoSign(at)


def sign_step(sets, sign, state, left):
    """Tell the code that reads as the sign, and what is left behind it; None if none can stand here."""
    code = sets[state].find(sign)
    if code < 0:
        return None
    if left == FREE or is_common(sets, code):
        return code, left
    if left == 0:
        return None
    return code, left - 1


def steps(sets, sign, state, left, most):
    """List the codes that can stand ahead of or for the sign, the least first.

    With each stand how many signs it reads (0 or 1), the state behind it, and what is left there.
    """
    many = len(sets[0])
    found = []
    step = sign_step(sets, sign, state, left)
    if step is not None:
        code, kept = step
        found.append((code, 1, state, kept))
    for told in (0, 1):
        # The loss of a shift to the state that holds already spoils nothing,
        # and behind it nothing is spoilt by the loss of the shift ahead of it.
        kept = FREE if told == state else most
        found.append((many + told, 0, told, kept))
    return found


def lengths_ahead(sets, sign, behind, most):
    """Tell the least lengths ahead of a sign, from those behind it, by state and what is left."""
    at_once = {}
    for state, left in behind:
        step = sign_step(sets, sign, state, left)
        at_once[(state, left)] = NEVER if step is None else 1 + behind[(state, step[1])]
    ahead = {}
    for state, left in behind:
        other = 1 - state
        # One shift or two: other rows of shifts only lead to where these lead, or to less.
        ahead[(state, left)] = min(
            at_once[(state, left)],
            1 + at_once[(state, FREE)],
            1 + at_once[(other, most)],
            2 + at_once[(other, FREE)],
        )
    return ahead


def shortest_lengths(sets, text, most):
    """List the least lengths of tapes of the text behind each of its places, its end the last."""
    lefts = [FREE] + list(range(most + 1))
    row = {(state, left): 0 for state in (0, 1) for left in lefts}
    rows = [row]
    for sign in reversed(text):
        row = lengths_ahead(sets, sign, row, most)
        rows.append(row)
    rows.reverse()
    return rows


def shortest(sets, text, state, most):
    """Tell the least of the shortest tapes of which no lost code spoils more than so many signs."""
    rows = shortest_lengths(sets, text, most)
    tape = []
    at = 0
    now = state
    left = FREE
    while at < len(text):
        length = rows[at][(now, left)]
        for code, reads, told, kept in steps(sets, text[at], now, left, most):
            if 1 + rows[at + reads][(told, kept)] == length:
                tape.append(code)
                at, now, left = at + reads, told, kept
                break
    return tape


def least(sets, text, state):
    """Tell the shortest tape that, begun in the state, is read as the text."""
    check_sets(sets)
    check_text(sets, text)
    check_state(state)
    return shortest(sets, text, state, FREE)


def guarded(sets, text, state, most):
    """Tell the shortest tape of the text of which no lost code spoils more than `most` signs."""
    check_sets(sets)
    check_text(sets, text)
    check_state(state)
    if not 0 <= most <= MOST_SPOILT:
        raise BadNumber("a number of spoilt signs is 0 to 20")
    return shortest(sets, text, state, most)


def trimmed(sets, tape, state):
    """Tell the tape that is read alike, begun in the state, with the fewest shifts."""
    check_sets(sets)
    check_tape(sets, tape)
    check_state(state)
    many = len(sets[0])
    short = []
    now = state
    short_now = state
    for code in tape:
        if code >= many:
            now = code - many
            continue
        if short_now != now and not is_common(sets, code):
            short.append(many + now)
            short_now = now
        short.append(code)
    return short


def is_read_otherwise(sets, ahead, behind):
    """Tell whether codes behind others, all begun in state 0, are read otherwise than alone."""
    _, state = read(sets, ahead, 0)
    return state == 1 and spoilt(sets, behind) > 0


def joined(sets, one, other):
    """Tell one tape that is read as the two are, each begun in state 0."""
    check_sets(sets)
    check_tape(sets, one)
    check_tape(sets, other)
    if is_read_otherwise(sets, one, other):
        return one + [len(sets[0])] + other
    return one + other


def cut(sets, tape, at):
    """Tell two tapes, each begun in state 0, that are read as the tape ahead of the place and behind it."""
    check_sets(sets)
    check_tape(sets, tape)
    if not 0 <= at <= len(tape):
        raise BadNumber("a place is 0 to as many as there are codes")
    ahead = tape[:at]
    behind = tape[at:]
    if is_read_otherwise(sets, ahead, behind):
        behind = [len(sets[0]) + 1] + behind
    return ahead, behind

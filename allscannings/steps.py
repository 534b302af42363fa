"""A format laid out as steps.

A step is a tuple, with its kind first: the end, (END,); signs to be
read, (LITERAL, text, ahead), (NUMBER, lo, hi, ahead) and
(WORD, lo, hi, ahead), where ahead is the index of the step behind it; or
a choice, (CHOICE, options), each option the number that tells it in a
value and the index of the step to go on with, in the order of scannings.

The first step of the list is the end, the last one is where the format
begins, and each step leads only to steps that stand before it.
"""

from allscannings.kinds import ALTERNATIVES, LITERAL, OPTIONAL, REPEAT

CHOICE = 6
END = 7


def steps_of(row):
    """The steps of a format, a row of pieces."""
    steps = [(END,)]
    add_row(steps, row, 0)
    return steps


def add_step(steps, step):
    """Puts a step behind the others and gives its index."""
    steps.append(step)
    return len(steps) - 1


def add_row(steps, row, ahead):
    """Adds a row's steps, which lead on to ahead; gives where they begin."""
    begin = ahead
    for piece in reversed(row):
        begin = add_piece(steps, piece, begin)
    return begin


def add_piece(steps, piece, ahead):
    """Adds a piece's steps, which lead on to ahead; gives where they begin."""
    kind = piece[0]
    if kind == ALTERNATIVES:
        first = add_row(steps, piece[1], ahead)
        second = add_row(steps, piece[2], ahead)
        return add_step(steps, (CHOICE, [(0, first), (1, second)]))
    if kind == OPTIONAL:
        there = add_row(steps, piece[1], ahead)
        return add_step(steps, (CHOICE, [(1, there), (0, ahead)]))
    if kind == REPEAT:
        return add_repeat(steps, piece, ahead)
    return add_step(steps, piece + (ahead,))


def add_repeat(steps, piece, ahead):
    """Adds a repeat's steps: its row is laid out hi times, and a choice of
    fewer times leads to the last so many of these."""
    separator = piece[1]
    lo = piece[2]
    hi = piece[3]
    begins = [ahead]
    for times in range(hi):
        behind = begins[-1]
        if times > 0 and len(separator) > 0:
            behind = add_step(steps, (LITERAL, separator, behind))
        begins.append(add_row(steps, piece[4], behind))
    options = [(taken, begins[taken]) for taken in range(hi, lo - 1, -1)]
    return add_step(steps, (CHOICE, options))

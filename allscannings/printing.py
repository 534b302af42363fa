"""Prints of values."""

from allscannings.kinds import LITERAL, NUMBER
from allscannings.reading import MOST_VALUE_NUMBER, NotWhole, Reader
from allscannings.signs import LETTER_A, LETTER_Z
from allscannings.steps import CHOICE, END


def print_of(steps, value):
    """The print of a value, a list of bytes; NotWhole if it has none."""
    reader = Reader(value)
    shown = []
    step = steps[-1]
    while step[0] != END:
        if step[0] == CHOICE:
            step = steps[chosen(step, reader)]
        else:
            shown.extend(signs_of(step, reader))
            step = steps[step[-1]]
    reader.finish()
    return shown


def chosen(step, reader):
    """The index of the step that the value goes on with behind a choice."""
    number = reader.take(0, MOST_VALUE_NUMBER)
    for option, ahead in step[1]:
        if option == number:
            return ahead
    raise NotWhole("there's no such choice")


def signs_of(step, reader):
    """The bytes of a literal, or of the number or word that's next."""
    if step[0] == LITERAL:
        return step[1]
    lo = step[1]
    hi = step[2]
    if step[0] == NUMBER:
        return digits_of(reader.take(0, MOST_VALUE_NUMBER), lo, hi)
    how_many = reader.take(lo, hi)
    letters = reader.take_many(how_many, 0, LETTER_Z - LETTER_A)
    return [LETTER_A + letter for letter in letters]


def digits_of(number, lo, hi):
    """A number's digits, from lo to hi of them."""
    digits = str(number)
    if lo == hi:
        digits = digits.zfill(hi)
    if len(digits) < lo or len(digits) > hi:
        raise NotWhole("too few or too many digits")
    return [ord(digit) for digit in digits]

"""The calls on one object, and what they answer."""

from allscannings.pieces import read_format
from allscannings.printing import print_of
from allscannings.reading import NotWhole, read_text, read_value
from allscannings.scanning import NoSuchScanning, how_many_scannings, scanning_with
from allscannings.steps import steps_of

FORMAT = 0
PRINT = 1
SCAN = 2
COUNT = 3
KTH = 4


class UnknownCall(ValueError):
    """There's no call with this number."""


class Scanner:
    """The object that the calls are made on: it keeps the format's steps."""

    def __init__(self):
        self.steps = steps_of([])

    def answer(self, call, number, row):
        """What a call answers; row is its list, number what kth has ahead."""
        try:
            return self.answer_whole(call, number, row)
        except NotWhole:
            return [-1]
        except NoSuchScanning:
            return [-2]

    def answer_whole(self, call, number, row):
        """The answer of a call that isn't refused."""
        if call == FORMAT:
            return self.answer_format(row)
        if call == PRINT:
            return self.answer_print(row)
        if call == SCAN:
            return self.answer_scan(row)
        if call == COUNT:
            return [how_many_scannings(self.steps, read_text(row))]
        return self.answer_kth(number, row)

    def answer_format(self, row):
        """Takes the format that the list tells."""
        pieces, how_many, through = read_format(row)
        self.steps = steps_of(pieces)
        return [how_many, through]

    def answer_print(self, row):
        """1 and the value's print, or 0."""
        value = read_value(row)
        try:
            text = print_of(self.steps, value)
        except NotWhole:
            return [0]
        return [1, len(text)] + text

    def answer_scan(self, row):
        """1 and the text's first scanning, or 0."""
        text = read_text(row)
        try:
            value = scanning_with(self.steps, text, 0)
        except NoSuchScanning:
            return [0]
        return [1, len(value)] + value

    def answer_kth(self, number, row):
        """The text's scanning with this number."""
        value = scanning_with(self.steps, read_text(row), number)
        return [len(value)] + value


def answers(calls):
    """What the calls answer one behind another, on one new object: of each
    how many numbers, and these."""
    scanner = Scanner()
    given = []
    place = 0
    while place < len(calls):
        call = calls[place]
        if call < FORMAT or call > KTH:
            raise UnknownCall("no call has this number")
        number = 0
        if call == KTH:
            place += 1
            number = calls[place]
        begin = place + 2
        place = begin + calls[place + 1]
        answer = scanner.answer(call, number, calls[begin:place])
        given.append(len(answer))
        given.extend(answer)
    return given

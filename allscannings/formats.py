"""The calls on one object, and what they answer."""

from allscannings.beginnings import NoSuchLength, first_kept, kept_counts
from allscannings.pieces import read_format
from allscannings.printing import print_of
from allscannings.reading import NotWhole, read_text, read_value
from allscannings.scanning import NoSuchScanning, how_many_scannings, number_among, scanning_with
from allscannings.steps import steps_of
from allscannings.ways import Walk, how_many_done

FORMAT = 0
PRINT = 1
SCAN = 2
COUNT = 3
KTH = 4
FAR = 5
AGAIN = 6
LEAST = 7
AMBIGUOUS = 8
TEXTS = 9


class Scanner:
    """The object that the calls are made on: it keeps the format's steps,
    and the walk by them."""

    def __init__(self):
        self.steps = steps_of([])
        self.walk = Walk(self.steps)

    def answer(self, call, number, row):
        """What a call answers; number and row are what it's handed, 0 and
        empty if it has none."""
        try:
            return self.answer_whole(call, number, row)
        except NotWhole:
            return [-1]
        except NoSuchScanning:
            return [-2]
        except NoSuchLength:
            return [-3]

    def answer_whole(self, call, number, row):
        """The answer of a call that isn't refused."""
        if call == FORMAT:
            return self.answer_format(row)
        if call == PRINT or call == AGAIN:
            return self.answer_value(call, read_value(row))
        if call == LEAST:
            return self.answer_first(1)
        if call == AMBIGUOUS:
            return self.answer_first(2)
        if call == TEXTS:
            return kept_counts(self.walk, number)
        return self.answer_text(call, number, read_text(row))

    def answer_format(self, row):
        """Takes the format that the list tells."""
        pieces, how_many, through = read_format(row)
        self.steps = steps_of(pieces)
        self.walk = Walk(self.steps)
        return [how_many, through]

    def answer_value(self, call, value):
        """What print and again answer of a value: 0 if it has no print."""
        try:
            text = print_of(self.steps, value)
        except NotWhole:
            return [0]
        if call == PRINT:
            return [1] + counted(text)
        how_many, number = number_among(self.steps, text, value)
        return [1, how_many, 1 if number == 0 else 0, number]

    def answer_text(self, call, number, text):
        """What scan, count, kth and far answer of a text."""
        if call == COUNT:
            return [how_many_scannings(self.steps, text)]
        if call == FAR:
            return self.answer_far(text)
        if call == KTH:
            return counted(scanning_with(self.steps, text, number))
        try:
            return [1] + counted(scanning_with(self.steps, text, 0))
        except NoSuchScanning:
            return [0]

    def answer_far(self, text):
        """How far the text goes well, and what is wished there."""
        place, ways = self.walk.furthest(text)
        return [place, 1 if how_many_done(ways) > 0 else 0] + counted(self.walk.wishes(ways))

    def answer_first(self, fewest):
        """1 and the first kept text with so many scannings, or 0."""
        text = first_kept(self.walk, fewest)
        if text is None:
            return [0]
        return [1] + counted(text)


def counted(numbers):
    """The numbers with how many they are ahead of them."""
    return [len(numbers)] + numbers


def has_number(call):
    """Whether a number is handed to the call."""
    return call == KTH or call == TEXTS


def has_list(call):
    """Whether a list is handed to the call, behind its number."""
    return call < LEAST


def answers(calls):
    """What the calls answer one behind another, on one new object: of each
    how many numbers, and these."""
    scanner = Scanner()
    given = []
    place = 0
    while place < len(calls):
        call = calls[place]
        place += 1
        number = 0
        row = []
        if has_number(call):
            number = calls[place]
            place += 1
        if has_list(call):
            begin = place + 1
            place = begin + calls[place]
            row = calls[begin:place]
        given.extend(counted(scanner.answer(call, number, row)))
    return given

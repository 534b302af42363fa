"""Lists of numbers, read as texts, values and whatever else they tell."""

from allscannings.signs import FIRST_BYTE, LAST_BYTE

MOST_TEXT_BYTES = 24
MOST_VALUE_NUMBERS = 40
MOST_VALUE_NUMBER = 9999


class NotWhole(ValueError):
    """The numbers aren't whole what is read out of them."""


class Reader:
    """Reads a row of numbers, each of them once, from the first one on."""

    def __init__(self, numbers):
        self.numbers = numbers
        self.place = 0

    def take(self, least, most):
        """The number that's next, which is to be from least to most."""
        if self.place >= len(self.numbers):
            raise NotWhole("the row ends too soon")
        number = self.numbers[self.place]
        if number < least or number > most:
            raise NotWhole("a number is out of range")
        self.place += 1
        return number

    def take_many(self, how_many, least, most):
        """The numbers that are next, each of them from least to most."""
        taken = []
        for turn in range(how_many):
            taken.append(self.take(least, most))
        return taken

    def take_text(self, fewest, most):
        """A text of so many bytes, with their count ahead of them."""
        how_many = self.take(fewest, most)
        return self.take_many(how_many, FIRST_BYTE, LAST_BYTE)

    def finish(self):
        """Refuses the row if numbers are left over."""
        if self.place < len(self.numbers):
            raise NotWhole("numbers are left over")


def read_text(numbers):
    """The text that the list tells; NotWhole if it isn't whole one."""
    reader = Reader(numbers)
    text = reader.take_text(0, MOST_TEXT_BYTES)
    reader.finish()
    return text


def read_value(numbers):
    """The row of a value's numbers that the list tells; else NotWhole."""
    reader = Reader(numbers)
    how_many = reader.take(0, MOST_VALUE_NUMBERS)
    value = reader.take_many(how_many, 0, MOST_VALUE_NUMBER)
    reader.finish()
    return value

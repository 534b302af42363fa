"""Texts gone through byte by byte, in all ways at once.

A spot is where a way waits in a format: the index of a step, and how many
bytes of it the way has taken. Ways at the same spot go on alike, so they
aren't listed: ways are a dict that tells for each spot how many wait there.
Those that are done wait at the end's spot, where no byte is wished.
"""

from allscannings.kinds import LITERAL, NUMBER
from allscannings.signs import DIGIT_0, DIGIT_9, LETTER_A, LETTER_Z
from allscannings.steps import CHOICE, END

END_INDEX = 0


def wished_at(step, taken):
    """The bytes that are wished at a spot, rising."""
    if step[0] == END:
        return []
    if step[0] == LITERAL:
        return step[1][taken:taken + 1]
    lo = step[1]
    hi = step[2]
    if taken == hi:
        return []
    if step[0] == NUMBER:
        without_zero = taken == 0 and lo != hi and lo > 1
        return list(range(DIGIT_0 + 1 if without_zero else DIGIT_0, DIGIT_9 + 1))
    return list(range(LETTER_A, LETTER_Z + 1))


def taken_with(step, taken, byte):
    """How many bytes of a step are taken with one more."""
    if step[0] == NUMBER and step[1] != step[2] and taken == 0 and byte == DIGIT_0:
        # A 0 stands alone then: it's as if the number had all its digits.
        return step[2]
    return taken + 1


def is_whole(step, taken):
    """Whether a way with so many bytes of a step goes on to what's behind."""
    return taken >= (len(step[1]) if step[0] == LITERAL else step[1])


def add_ways(ways, spot, how_many):
    """Adds so many ways at a spot."""
    ways[spot] = ways.get(spot, 0) + how_many


def entries_of(steps):
    """For each step, the ways that wait for a first byte, or are done, when
    one way gets to it: choices are gone through, and wish nothing."""
    entries = []
    for index, step in enumerate(steps):
        entry = {}
        if step[0] == CHOICE:
            for option, ahead in step[1]:
                for spot, how_many in entries[ahead].items():
                    add_ways(entry, spot, how_many)
        else:
            add_ways(entry, (index, 0), 1)
        entries.append(entry)
    return entries


class Walk:
    """Goes through texts by the steps of a format."""

    def __init__(self, steps):
        self.steps = steps
        self.entries = entries_of(steps)

    def begun(self):
        """The ways at a text's beginning."""
        ways = {}
        self.enter(ways, len(self.steps) - 1, 1)
        return ways

    def enter(self, ways, index, how_many):
        """Adds so many ways that get to a step."""
        for spot, each in self.entries[index].items():
            add_ways(ways, spot, each * how_many)

    def behind(self, ways, byte):
        """The ways that go on by a byte, as they are behind it."""
        arrived = {}
        for spot, how_many in ways.items():
            index, taken = spot
            step = self.steps[index]
            if byte in wished_at(step, taken):
                self.go_on(arrived, index, taken_with(step, taken, byte), how_many)
        return arrived

    def go_on(self, ways, index, taken, how_many):
        """Adds ways that have so many bytes of a step: they wish one more,
        or go on to what's behind it, or both."""
        step = self.steps[index]
        if len(wished_at(step, taken)) > 0:
            add_ways(ways, (index, taken), how_many)
        if is_whole(step, taken):
            self.enter(ways, step[-1], how_many)

    def wishes(self, ways):
        """The bytes that some of the ways wish, rising, each once."""
        found = []
        for index, taken in ways:
            found.extend(wished_at(self.steps[index], taken))
        return sorted(set(found))

    def furthest(self, text):
        """The furthest place of a text, and the ways stuck or done there."""
        ways = self.begun()
        for place, byte in enumerate(text):
            arrived = self.behind(ways, byte)
            if len(arrived) == 0:
                return (place, ways)
            ways = arrived
        return (len(text), ways)


def how_many_done(ways):
    """How many of the ways are done. At a text's end each of them is one
    scanning of it, as what is chosen on a way tells the value."""
    return ways.get((END_INDEX, 0), 0)

"""Scannings of texts.

They are counted from each step and place on, not listed: a text may have
hundreds of thousands of them, but there are few steps and places.
"""

from allscannings.kinds import LITERAL, NUMBER
from allscannings.signs import DIGIT_0, DIGIT_9, LETTER_A, LETTER_Z
from allscannings.steps import CHOICE


class NoSuchScanning(ValueError):
    """The text has no scanning with this number."""


def run_length(text, place, most, first, last):
    """How many bytes from first to last stand in a row, at most so many."""
    length = 0
    for byte in text[place:place + most]:
        if byte < first or byte > last:
            return length
        length += 1
    return length


def number_from(digits):
    """The number that digits tell."""
    number = 0
    for digit in digits:
        number = 10 * number + digit - DIGIT_0
    return number


def number_readings(step, text, place):
    """All numbers that can be read at a place, as readings tells them."""
    lo = step[1]
    hi = step[2]
    found = []
    for length in range(run_length(text, place, hi, DIGIT_0, DIGIT_9), lo - 1, -1):
        if lo == hi or length == 1 or text[place] != DIGIT_0:
            behind = place + length
            found.append(([number_from(text[place:behind])], behind, step[3]))
    return found


def word_readings(step, text, place):
    """All words that can be read at a place, as readings tells them."""
    lo = step[1]
    hi = step[2]
    found = []
    for length in range(run_length(text, place, hi, LETTER_A, LETTER_Z), lo - 1, -1):
        behind = place + length
        letters = [byte - LETTER_A for byte in text[place:behind]]
        found.append(([length] + letters, behind, step[3]))
    return found


def readings(step, text, place):
    """All that a step can be at a place, in the order of scannings: of
    each the value's numbers, the place behind, and the step to go on with."""
    if step[0] == CHOICE:
        return [([option], place, ahead) for option, ahead in step[1]]
    if step[0] == NUMBER:
        return number_readings(step, text, place)
    if step[0] == LITERAL:
        behind = place + len(step[1])
        return [([], behind, step[2])] if text[place:behind] == step[1] else []
    return word_readings(step, text, place)


def counts_of(steps, text):
    """For each step and each place, how many scannings there are of what
    stands behind the place by what stands from the step on."""
    counts = [[0] * len(text) + [1]]
    # A step leads only to steps before it, so what it asks for is there.
    for step in steps[1:]:
        row = []
        for place in range(len(text) + 1):
            row.append(sum([counts[ahead][behind] for numbers, behind, ahead in readings(step, text, place)]))
        counts.append(row)
    return counts


def how_many_scannings(steps, text):
    """How many scannings the text has."""
    return counts_of(steps, text)[-1][0]


def scanning_with(steps, text, number):
    """The scanning with this number, from 0 on; else NoSuchScanning."""
    counts = counts_of(steps, text)
    if number < 0 or number >= counts[-1][0]:
        raise NoSuchScanning("no scanning has this number")
    value = []
    index = len(steps) - 1
    place = 0
    left = number
    while index > 0:
        reading, left = picked(counts, readings(steps[index], text, place), left)
        value.extend(reading[0])
        place = reading[1]
        index = reading[2]
    return value


def picked(counts, found, number):
    """The reading by which the scanning with this number goes on, and the
    number that it has among those that go on by this reading."""
    left = number
    for reading in found:
        going_on = counts[reading[2]][reading[1]]
        if left < going_on:
            return (reading, left)
        left -= going_on
    raise NoSuchScanning("no scanning has this number")


def number_among(steps, text, value):
    """How many scannings a text has, and the number that a value has among
    them; the text is the value's print."""
    counts = counts_of(steps, text)
    number = 0
    index = len(steps) - 1
    place = 0
    told = 0
    while index > 0:
        reading, before = recognized(counts, readings(steps[index], text, place), value[told:])
        number += before
        told += len(reading[0])
        place = reading[1]
        index = reading[2]
    return (counts[-1][0], number)


def recognized(counts, found, numbers):
    """The reading that the numbers begin with, and how many scannings go on
    by those ahead of it."""
    before = 0
    for reading in found:
        if numbers[:len(reading[0])] == reading[0]:
            return (reading, before)
        before += counts[reading[2]][reading[1]]
    raise NoSuchScanning("the numbers begin with none of the readings")

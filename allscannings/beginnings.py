"""Kept texts: those with which the texts of a format begin, the first ones
of each length. With each goes what ways there are at its end."""

from allscannings.ways import how_many_done

MOST_KEPT = 40
MOST_BYTES = 6
MOST_BYTES_OF_FIRST = 5


class NoSuchLength(ValueError):
    """No texts are told of this length."""


def shortest(walk):
    """The kept texts of length 0."""
    return [([], walk.begun())]


def longer(walk, kept):
    """The kept texts that are longer by one byte."""
    found = []
    for text, ways in kept:
        for byte in walk.wishes(ways):
            if len(found) == MOST_KEPT:
                return found
            found.append((text + [byte], walk.behind(ways, byte)))
    return found


def has_scannings(ways, fewest):
    """Whether a text with these ways at its end has so many scannings."""
    return how_many_done(ways) >= fewest


def how_many_with(kept, fewest):
    """How many of the kept texts have so many scannings or more."""
    return len([text for text, ways in kept if has_scannings(ways, fewest)])


def kept_counts(walk, length):
    """How many texts of a length are kept, how many of these have a
    scanning, and how many two or more; else NoSuchLength."""
    if length < 0 or length > MOST_BYTES:
        raise NoSuchLength("texts are told of lengths from 0 to 6")
    kept = shortest(walk)
    for turn in range(length):
        kept = longer(walk, kept)
    return [len(kept), how_many_with(kept, 1), how_many_with(kept, 2)]


def first_kept(walk, fewest):
    """The first kept text, shorter ones first, that has so many scannings
    or more; None if there's no such one."""
    kept = shortest(walk)
    for length in range(MOST_BYTES_OF_FIRST + 1):
        if length > 0:
            kept = longer(walk, kept)
        for text, ways in kept:
            if has_scannings(ways, fewest):
                return text
    return None

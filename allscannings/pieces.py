"""Formats: rows of pieces, read from a list.

A piece is a tuple, with its kind first and then, in the list's order,
what its list tells: bytes, lo and hi, and rows of pieces.
"""

from allscannings.kinds import ALTERNATIVES, LITERAL, NUMBER, OPTIONAL, REPEAT, WORD
from allscannings.reading import NotWhole, Reader

MOST_PIECES = 14
MOST_GONE_THROUGH = 8
MOST_LITERAL_BYTES = 8
MOST_SEPARATOR_BYTES = 8
MOST_SIGNS = 4
MOST_TIMES = 4


class PieceReader(Reader):
    """Reads rows of pieces, and counts the pieces in all of them."""

    def __init__(self, numbers):
        Reader.__init__(self, numbers)
        self.pieces_begun = 0

    def take_pieces(self, in_repeat):
        """A row of pieces, with their count ahead of them."""
        row = []
        for turn in range(self.take(0, MOST_PIECES)):
            row.append(self.take_piece(in_repeat))
        return row

    def take_piece(self, in_repeat):
        """One piece, with those within it."""
        # It counts before those within it are read, so that what nests
        # too deep is refused before it's gone into.
        self.pieces_begun += 1
        if self.pieces_begun > MOST_PIECES:
            raise NotWhole("too many pieces")
        kind = self.take(LITERAL, REPEAT)
        if kind == LITERAL:
            return (kind, self.take_text(1, MOST_LITERAL_BYTES))
        if kind == NUMBER or kind == WORD:
            lo = self.take(1, MOST_SIGNS)
            return (kind, lo, self.take(lo, MOST_SIGNS))
        if kind == ALTERNATIVES:
            first = self.take_pieces(in_repeat)
            return (kind, first, self.take_pieces(in_repeat))
        if kind == OPTIONAL:
            return (kind, self.take_pieces(in_repeat))
        if in_repeat:
            raise NotWhole("a repeat within a repeat")
        return self.take_repeat()

    def take_repeat(self):
        """A repeat, behind its kind."""
        separator = self.take_text(0, MOST_SEPARATOR_BYTES)
        lo = self.take(0, MOST_TIMES)
        hi = self.take(lo, MOST_TIMES)
        return (REPEAT, separator, lo, hi, self.take_pieces(True))


def rows_within(piece):
    """The rows of pieces that stand in a piece itself."""
    if piece[0] == ALTERNATIVES:
        return [piece[1], piece[2]]
    if piece[0] == OPTIONAL:
        return [piece[1]]
    if piece[0] == REPEAT:
        return [piece[4]]
    return []


def gone_through_of(piece):
    """How many pieces are gone through for one, itself among them."""
    if piece[0] == LITERAL:
        return 0
    times = piece[3] if piece[0] == REPEAT else 1
    return 1 + times * max([gone_through(row) for row in rows_within(piece)], default=0)


def gone_through(row):
    """How many pieces are gone through in a row."""
    return sum([gone_through_of(piece) for piece in row])


def read_format(numbers):
    """The row of pieces that the list tells, how many pieces it has with
    those within others, and how many are gone through; else NotWhole."""
    reader = PieceReader(numbers)
    row = reader.take_pieces(False)
    reader.finish()
    through = gone_through(row)
    if through > MOST_GONE_THROUGH:
        raise NotWhole("too many are gone through")
    return (row, reader.pieces_begun, through)

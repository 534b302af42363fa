"""The program beside the helper's plain way, on many made-up formats."""

import random
import unittest

from helper import (
    alt, count_call, format_call, kth_call, lit, num, opt, plain_print, plain_scannings, print_call, rep, run, scan_call,
    text_list, with_count, word)

FORMATS = 600


def made_range(chance, least, most):
    lo = chance.randint(least, most)
    return lo, chance.randint(lo, most)


def made_text(chance, longest):
    return "".join(chance.choice("aab01-") for turn in range(longest))


def made_row(chance, depth, in_repeat):
    return [made_piece(chance, depth, in_repeat) for turn in range(chance.choice([0, 1, 1, 2, 2, 3]))]


def made_piece(chance, depth, in_repeat):
    kind = chance.choice("lnw" if depth == 0 else "lnwao" if in_repeat else "lnwaorr")
    if kind == "l":
        return lit(made_text(chance, chance.choice([1, 1, 1, 2])))
    if kind == "n":
        return num(*made_range(chance, 1, 3))
    if kind == "w":
        return word(*made_range(chance, 1, 3))
    if kind == "a":
        return alt(made_row(chance, depth - 1, in_repeat), made_row(chance, depth - 1, in_repeat))
    if kind == "o":
        return opt(*made_row(chance, depth - 1, in_repeat))
    lo, hi = made_range(chance, 0, 3)
    return rep(made_text(chance, chance.choice([0, 0, 1])), lo, hi, *made_row(chance, depth - 1, True))


def made_value(chance, row):
    """A value that mostly has a print."""
    value = []
    for piece in row:
        kind = piece[0]
        if kind == "number":
            value.append(chance.choice([0, 1, 10, 11, 100, 101, chance.randint(0, 1200)]))
        elif kind == "word":
            length = chance.randint(piece[1], piece[2])
            value += [length] + [chance.choice([0, 0, 1]) for turn in range(length)]
        elif kind == "alternatives":
            which = chance.randint(0, 1)
            value += [which] + made_value(chance, piece[1 + which])
        elif kind == "optional":
            there = chance.randint(0, 1)
            value += [there] + (made_value(chance, piece[1]) if there else [])
        elif kind == "repeat":
            times = chance.randint(piece[2], piece[3])
            value.append(times)
            for turn in range(times):
                value += made_value(chance, piece[4])
    return value


def spoilt(chance, value):
    """The value with one number more, fewer, or other."""
    place = chance.randint(0, len(value))
    return value[:place] + chance.choice([[], [0], [1], [5], [26], [1, 0]]) + value[place + chance.randint(0, 1):]


class PlainTest(unittest.TestCase):
    def check_print(self, row, value):
        text = plain_print(row, value)
        wanted = [0] if text is None else [1] + text_list(text)
        self.assertEqual(run(format_call(*row), print_call(*value))[1], wanted, (row, value))
        return text

    def check_scannings(self, row, text):
        found = plain_scannings(row, text)
        some = sorted(set([0, len(found) // 2, len(found) - 1]) | set(range(min(len(found), 5))))
        calls = [kth_call(number, text) for number in some] + [kth_call(len(found), text)]
        wanted = [with_count(found[number]) if 0 <= number < len(found) else [-2] for number in some] + [[-2]]
        first = [1] + with_count(found[0]) if found else [0]
        given = run(format_call(*row), count_call(text), scan_call(text), *calls)
        self.assertEqual(given[1:], [[len(found)], first] + wanted, (row, text))
        for value in found[:20]:
            self.assertEqual(plain_print(row, value), text)
            self.assertEqual(self.check_print(row, value), text)
        return len(found)

    def test_made_up_formats(self):
        chance = random.Random(20261119)
        taken = 0
        none = 0
        several = 0
        while taken < FORMATS:
            row = made_row(chance, 3, False)
            if run(format_call(*row))[0] == [-1]:
                continue
            taken += 1
            texts = ["", made_text(chance, chance.randint(1, 6))]
            for turn in range(4):
                value = made_value(chance, row)
                self.check_print(row, spoilt(chance, value))
                text = self.check_print(row, value)
                if text is not None and len(text) <= 24:
                    texts.append(text)
            for text in texts:
                how_many = self.check_scannings(row, text)
                none += how_many == 0
                several += how_many > 1
        self.assertGreater(none, 100)
        self.assertGreater(several, 100)


if __name__ == "__main__":
    unittest.main()

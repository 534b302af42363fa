"""The program beside the helper's plain way, on many made-up formats."""

import random
import unittest

from helper import (
    again_call, alt, ambiguous_call, count_call, far_call, format_call, kth_call, least_call, lit, num, opt, plain_far,
    plain_first, plain_kept, plain_print, plain_scannings, plain_texts, print_call, rep, run, scan_call, text_list,
    texts_call, with_count, word)

FORMATS = 600
FORMATS_WITH_KEPT_TEXTS = 150
LINES = 40


def made_range(chance, least, most):
    lo = chance.randint(least, most)
    return lo, chance.randint(lo, most)


def made_text(chance, longest):
    return "".join(chance.choice("aab01-") for turn in range(longest))


def made_row(chance, depth, in_repeat):
    return [made_piece(chance, depth, in_repeat) for turn in range(chance.choice([0, 1, 1, 2, 2, 3]))]


def made_piece(chance, depth, in_repeat):
    kind = chance.choice("lnw" if depth == 0 else "lnwao" if in_repeat else "lnwaorr")
    if kind == "l":
        return lit(made_text(chance, chance.choice([1, 1, 1, 2])))
    if kind == "n":
        return num(*made_range(chance, 1, 3))
    if kind == "w":
        return word(*made_range(chance, 1, 3))
    if kind == "a":
        return alt(made_row(chance, depth - 1, in_repeat), made_row(chance, depth - 1, in_repeat))
    if kind == "o":
        return opt(*made_row(chance, depth - 1, in_repeat))
    lo, hi = made_range(chance, 0, 3)
    return rep(made_text(chance, chance.choice([0, 0, 1])), lo, hi, *made_row(chance, depth - 1, True))


def made_value(chance, row):
    """A value that mostly has a print."""
    value = []
    for piece in row:
        kind = piece[0]
        if kind == "number":
            value.append(chance.choice([0, 1, 10, 11, 100, 101, chance.randint(0, 1200)]))
        elif kind == "word":
            length = chance.randint(piece[1], piece[2])
            value += [length] + [chance.choice([0, 0, 1]) for turn in range(length)]
        elif kind == "alternatives":
            which = chance.randint(0, 1)
            value += [which] + made_value(chance, piece[1 + which])
        elif kind == "optional":
            there = chance.randint(0, 1)
            value += [there] + (made_value(chance, piece[1]) if there else [])
        elif kind == "repeat":
            times = chance.randint(piece[2], piece[3])
            value.append(times)
            for turn in range(times):
                value += made_value(chance, piece[4])
    return value


def spoilt(chance, value):
    """The value with one number more, fewer, or other."""
    place = chance.randint(0, len(value))
    return value[:place] + chance.choice([[], [0], [1], [5], [26], [1, 0]]) + value[place + chance.randint(0, 1):]


def spoilt_text(chance, text):
    """The text with one byte more, fewer, or other."""
    place = chance.randint(0, len(text))
    return text[:place] + chance.choice(["", "0", "1", "a", "-"]) + text[place + chance.randint(0, 1):]


def made_format(chance):
    """A row that is a format."""
    while True:
        row = made_row(chance, 3, False)
        if run(format_call(*row))[0] != [-1]:
            return row


class Plain:
    """One format by the plain way: what each call on it answers."""

    def __init__(self, row):
        self.row = row
        self.levels = plain_kept(row, 6)
        self.counts = {text: len(plain_scannings(row, text)) for texts in self.levels for text in texts}

    def again(self, value):
        text = plain_print(self.row, value)
        if text is None:
            return [0]
        found = plain_scannings(self.row, text)
        number = found.index(tuple(value))
        return [1, len(found), int(number == 0), number]

    def kth(self, number, text):
        found = plain_scannings(self.row, text)
        return with_count(found[number]) if 0 <= number < len(found) else [-2]

    def scan(self, text):
        first = self.kth(0, text)
        return [0] if first == [-2] else [1] + first

    def print(self, value):
        text = plain_print(self.row, value)
        return [0] if text is None else [1] + text_list(text)

    def made_call(self, chance):
        """A call other than format, and its answer."""
        value = made_value(chance, self.row)
        if chance.random() < 0.3:
            value = spoilt(chance, value)
        text = plain_print(self.row, value)
        if text is None or len(text) > 23:
            text = made_text(chance, 3)
        if chance.random() < 0.3:
            text = spoilt_text(chance, text)
        number = chance.randint(-1, 2)
        length = chance.randint(-1, 7)
        return chance.choice([
            lambda: (print_call(*value), self.print(value)),
            lambda: (scan_call(text), self.scan(text)),
            lambda: (count_call(text), [len(plain_scannings(self.row, text))]),
            lambda: (kth_call(number, text), self.kth(number, text)),
            lambda: (far_call(text), plain_far(self.row, text)),
            lambda: (again_call(*value), self.again(value)),
            lambda: (least_call(), plain_first(self.levels, self.counts, 1)),
            lambda: (ambiguous_call(), plain_first(self.levels, self.counts, 2)),
            lambda: (texts_call(length), plain_texts(self.levels, self.counts, length)),
        ])()


class PlainTest(unittest.TestCase):
    def check_print(self, row, value):
        text = plain_print(row, value)
        wanted = [0] if text is None else [1] + text_list(text)
        self.assertEqual(run(format_call(*row), print_call(*value))[1], wanted, (row, value))
        return text

    def check_scannings(self, row, text):
        found = plain_scannings(row, text)
        some = sorted(set([0, len(found) // 2, len(found) - 1]) | set(range(min(len(found), 5))))
        calls = [kth_call(number, text) for number in some] + [kth_call(len(found), text)]
        wanted = [with_count(found[number]) if 0 <= number < len(found) else [-2] for number in some] + [[-2]]
        first = [1] + with_count(found[0]) if found else [0]
        given = run(format_call(*row), count_call(text), scan_call(text), *calls)
        self.assertEqual(given[1:], [[len(found)], first] + wanted, (row, text))
        for number, value in enumerate(found[:20]):
            self.assertEqual(plain_print(row, value), text)
            self.assertEqual(self.check_print(row, value), text)
            self.assertEqual(
                run(format_call(*row), again_call(*value))[1], [1, len(found), int(number == 0), number], (row, value))
        return len(found)

    def check_far(self, row, text):
        wanted = plain_far(row, text)
        self.assertEqual(run(format_call(*row), far_call(text))[1], wanted, (row, text))
        return wanted

    def test_made_up_formats(self):
        chance = random.Random(20261119)
        none = 0
        several = 0
        stuck_inside = 0
        done_inside = 0
        for turn in range(FORMATS):
            row = made_format(chance)
            texts = ["", made_text(chance, chance.randint(1, 6))]
            for turn in range(4):
                value = made_value(chance, row)
                self.check_print(row, spoilt(chance, value))
                text = self.check_print(row, value)
                if text is not None and len(text) <= 23:
                    texts += [text, spoilt_text(chance, text)]
            for text in texts:
                place, done, *wished = self.check_far(row, text)
                stuck_inside += place < len(text) and not done
                done_inside += place < len(text) and done
                how_many = self.check_scannings(row, text)
                none += how_many == 0
                several += how_many > 1
        self.assertGreater(none, 100)
        self.assertGreater(several, 100)
        self.assertGreater(stuck_inside, 100)
        self.assertGreater(done_inside, 100)

    def test_kept_texts(self):
        chance = random.Random(20261120)
        full = 0
        no_least = 0
        for turn in range(FORMATS_WITH_KEPT_TEXTS):
            plain = Plain(made_format(chance))
            least = plain_first(plain.levels, plain.counts, 1)
            ambiguous = plain_first(plain.levels, plain.counts, 2)
            lengths = list(range(-1, 8))
            given = run(
                format_call(*plain.row), least_call(), ambiguous_call(), *[texts_call(length) for length in lengths])
            wanted = [plain_texts(plain.levels, plain.counts, length) for length in lengths]
            self.assertEqual(given[1:], [least, ambiguous] + wanted, plain.row)
            full += max(len(texts) for texts in plain.levels) == 40
            no_least += least == [0]
        self.assertGreater(full, 10)
        self.assertGreater(no_least, 5)

    def test_forty_calls_mixed(self):
        chance = random.Random(20261121)
        plains = [Plain([])] + [Plain(made_format(chance)) for turn in range(30)]
        refused = [[0, 0], [0, 1, 6], [0, 2, 0, 0], [0, 4, 1, 1, 2, 1]]
        refusals = [[2, 1, 25], [3, 0], [4, 0, 1, -1], [5, 2, 1, 31], [6, 2, 1, 10000], [1, 2, 1, -1]]
        made = {}
        for turn in range(LINES):
            plain = plains[0]
            calls = []
            wanted = []
            while len(calls) < 40:
                which = chance.random()
                if which < 0.08:
                    plain = chance.choice(plains)
                    call = format_call(*plain.row)
                    answer = run(call)[0]
                elif which < 0.16:
                    call = chance.choice(refused + refusals)
                    answer = [-1]
                else:
                    call, answer = plain.made_call(chance)
                made[call[0]] = made.get(call[0], 0) + 1
                calls.append(call)
                wanted.append(answer)
            self.assertEqual(run(*calls), wanted, calls)
        self.assertEqual(sorted(made), list(range(10)))
        self.assertGreater(min(made.values()), LINES)


if __name__ == "__main__":
    unittest.main()

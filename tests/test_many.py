"""Texts with a great many scannings, and with none after many tries."""

import time
import unittest

from helper import (
    DIGITS, LETTERS, again_call, alt, ambiguous_call, count_call, far_call, format_call, kth_call, least_call, lit, num,
    opt, print_call, rep, run, scan_call, text_list, texts_call, word)

SECONDS = 20


class ManyTest(unittest.TestCase):
    def answered(self, *calls):
        begun = time.monotonic()
        given = run(*calls)
        self.assertLess(time.monotonic() - begun, SECONDS)
        return given

    def test_eight_repeats_of_nothing(self):
        given = self.answered(
            format_call(*[rep("", 0, 4)] * 8), count_call(""), kth_call(0, ""), kth_call(1, ""), kth_call(390624, ""),
            kth_call(390625, ""), kth_call(390623, ""), kth_call(195312, ""), scan_call(""), count_call("a"))
        self.assertEqual(given, [
            [8, 8], [390625], [8] + [4] * 8, [8] + [4] * 7 + [3], [8] + [0] * 8, [-2], [8] + [0] * 7 + [1],
            [8] + [2] * 8, [1, 8] + [4] * 8, [0]])

    def test_forty_calls_with_many_scannings(self):
        given = self.answered(format_call(*[rep("", 0, 4)] * 8), *[kth_call(390624, "")] * 39)
        self.assertEqual(given[1:], [[8] + [0] * 8] * 39)

    def test_eight_words_of_24_letters(self):
        row = [word(1, 4)] * 8
        text = "abcdefghijklmnopqrstuvwx"
        # Ways to make 24 of eight lengths from 1 to 4.
        ways = [1] + [0] * 24
        for turn in range(8):
            ways = [sum(ways[max(0, length - 4):length]) for length in range(25)]
        given = self.answered(format_call(*row), count_call(text), scan_call(text), kth_call(ways[24] - 1, text),
                              kth_call(ways[24], text), *[count_call(text)] * 30)
        self.assertEqual(given[1], [ways[24]])
        lengths = [4, 4, 4, 4, 4, 2, 1, 1]
        place = 0
        value = []
        for length in lengths:
            value += [length] + list(range(place, place + length))
            place += length
        self.assertEqual(given[2], [1, 32] + value)
        self.assertEqual(given[3][0], 32)
        self.assertEqual(given[3][1:4], [1, 0, 1])
        self.assertEqual(given[4], [-2])

    def test_none_after_many_tries(self):
        text = "a" * 23 + "!"
        given = self.answered(format_call(*[word(1, 4)] * 8), *[count_call(text), scan_call(text), kth_call(0, text)] * 13)
        self.assertEqual(given[1:], [[0], [0], [-2]] * 13)

    def test_eight_optional_parts(self):
        given = self.answered(
            format_call(*[opt(lit("a"))] * 7), count_call("aaa"), kth_call(34, "aaa"), kth_call(35, "aaa"))
        self.assertEqual(given, [[14, 7], [35], [7, 0, 0, 0, 0, 1, 1, 1], [-2]])
        given = self.answered(format_call(*[opt()] * 8), count_call(""), kth_call(254, ""))
        self.assertEqual(given, [[8, 8], [256], [8, 0, 0, 0, 0, 0, 0, 0, 1]])

    def test_alternatives_within_alternatives(self):
        row = [alt([alt([], [])], [alt([], [])])] * 4
        given = self.answered(format_call(*row), count_call(""), kth_call(255, ""), kth_call(1, ""))
        self.assertEqual(given, [[12, 8], [256], [8] + [1] * 8, [8] + [0] * 7 + [1]])

    def test_repeats_of_digits(self):
        row = [rep("", 0, 4, num(1, 4)), num(1, 4), word(1, 1), opt()]
        text = "1" * 15 + "a"
        given = self.answered(format_call(*row), count_call(text), scan_call(text), print_call(4, 1, 1, 1, 1, 1, 1, 0, 0))
        # Five lengths from 1 to 4 make 15, or four make 15, each with the optional part there or not.
        self.assertEqual(given[1], [2 * (sum(
            1 for code in range(4 ** 5) if sum(1 + code // 4 ** turn % 4 for turn in range(5)) == 15) + 4)])
        self.assertEqual(given[2], [1, 9, 4, 1111, 1111, 1111, 11, 1, 1, 0, 1])
        self.assertEqual(given[3], [1, 6] + [49] * 5 + [97])

    def test_far_along_many_ways(self):
        text = "a" * 24
        given = self.answered(format_call(*[word(1, 4)] * 8), *[far_call(text)] * 39)
        self.assertEqual(given[1:], [[24, 1] + text_list(LETTERS)] * 39)
        given = self.answered(format_call(*[rep("", 0, 4)] * 8), *[far_call(""), far_call("a")] * 19)
        self.assertEqual(given[1:], [[0, 1, 0]] * 38)
        row = [rep("", 0, 3, opt(num(1, 4))), opt()]
        given = self.answered(format_call(*row), far_call("1" * 12), far_call("1" * 13), far_call("1" * 11 + "a"))
        self.assertEqual(given[1:], [[12, 1, 0], [12, 1, 0], [11, 1] + text_list(DIGITS)])

    def test_again_of_many_scannings(self):
        row = [rep("", 0, 4)] * 8
        calls = [again_call(*[4] * 8), again_call(*[0] * 8), again_call(*[2] * 8), again_call(*[0] * 7, 1)] * 9
        given = self.answered(format_call(*row), *calls)
        self.assertEqual(
            given[1:], [[1, 390625, 1, 0], [1, 390625, 0, 390624], [1, 390625, 0, 195312], [1, 390625, 0, 390623]] * 9)

    def test_again_of_long_prints(self):
        row = [rep("ssssssss", 4, 4, *[lit("abcdefgh")] * 13)]
        self.assertEqual(self.answered(format_call(*row), *[again_call(4)] * 39)[1:], [[1, 1, 1, 0]] * 39)

    def test_kept_texts_of_many_scannings(self):
        row = [rep("", 0, 4, word(1, 4)), word(1, 4), word(1, 4), word(1, 4)]
        given = self.answered(
            format_call(*row), *[texts_call(6)] * 20, *[least_call()] * 9, *[ambiguous_call()] * 9)
        self.assertEqual(
            given[1:], [[40, 40, 40]] * 20 + [[1, 3, 97, 97, 97]] * 9 + [[1, 4, 97, 97, 97, 97]] * 9)
        given = self.answered(format_call(*[rep("", 0, 4)] * 8), least_call(), ambiguous_call(), *[texts_call(6)] * 37)
        self.assertEqual(given[1:], [[1, 0], [1, 0]] + [[0, 0, 0]] * 37)


if __name__ == "__main__":
    unittest.main()

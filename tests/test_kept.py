"""The calls least, ambiguous and texts: kept texts, and which have scannings."""

import unittest

from helper import (
    alt, ambiguous_call, count_call, far_call, format_call, least_call, lit, num, opt, rep, run, scan_call, text_list,
    texts_call, word)

HUGE = 10 ** 18


class KeptTest(unittest.TestCase):
    def first(self, row, least, ambiguous):
        """The texts that least and ambiguous answer, None for 0."""
        wanted = [[0] if text is None else [1] + text_list(text) for text in (least, ambiguous)]
        self.assertEqual(run(format_call(*row), least_call(), ambiguous_call())[1:], wanted, row)

    def texts(self, row, *wanted):
        """What texts answers of each length from 0 on, 0 0 0 behind those told."""
        calls = [texts_call(length) for length in range(7)]
        wanted = [list(counts) for counts in wanted] + [[0, 0, 0]] * (7 - len(wanted))
        self.assertEqual(run(format_call(*row), *calls)[1:], wanted, row)

    def test_no_pieces(self):
        self.assertEqual(
            run(least_call(), ambiguous_call(), texts_call(0), texts_call(1)), [[1, 0], [0], [1, 1, 0], [0, 0, 0]])
        self.first([], "", None)
        self.texts([], (1, 1, 0))

    def test_rows_without_pieces(self):
        for row in ([alt([], [])], [opt()], [rep("", 0, 4)], [rep("", 0, 1)], [opt(opt())]):
            self.first(row, "", "")
            self.texts(row, (1, 1, 1))
        for row in ([rep("", 4, 4)], [rep("abc", 0, 0)], [rep("", 0, 0, alt([], []))]):
            self.first(row, "", None)
            self.texts(row, (1, 1, 0))
        self.first([rep("a", 0, 4)], "", "")
        self.texts([rep("a", 0, 4)], (1, 1, 1), (1, 1, 0), (1, 1, 0), (1, 1, 0))

    def test_literals(self):
        self.first([lit(" ~")], " ~", None)
        self.texts([lit(" ~")], (1, 0, 0), (1, 0, 0), (1, 1, 0))

    def test_up_to_5_bytes(self):
        self.first([lit("abcde")], "abcde", None)
        self.first([lit("abcdef")], None, None)
        self.texts([lit("abcdef")], *[(1, 0, 0)] * 6, (1, 1, 0))
        self.first([alt([lit("abcde")], [lit("abcde")])], "abcde", "abcde")
        self.first([alt([lit("abcdef")], [lit("abcdef")])], None, None)
        self.texts([alt([lit("abcdef")], [lit("abcdef")])], *[(1, 0, 0)] * 6, (1, 1, 1))
        self.texts([lit("abcdefg")], *[(1, 0, 0)] * 7)

    def test_shorter_ones_first(self):
        self.first([alt([lit("aa")], [lit("b")])], "b", None)
        self.first([alt([alt([lit("aa")], [lit("aa")])], [lit("b")])], "b", "aa")
        self.first([rep("", 1, 4, lit("ab"))], "ab", None)
        self.first([rep("", 1, 2, lit("a")), rep("", 1, 2, lit("a"))], "aa", "aaa")

    def test_by_the_kept_ones_order_then_by_the_byte(self):
        self.first([alt([lit("ba")], [lit("ab")])], "ab", None)
        self.first([alt([lit("az")], [lit("ab")])], "ab", None)
        self.first([word(1, 1), alt([lit("-")], [num(1, 1)])], "a-", None)
        self.first([opt(alt([lit("b")], [lit("a")])), opt(word(1, 1))], "", "a")
        self.first([alt([word(3, 3)], [num(1, 1), num(2, 2)])], "000", None)

    def test_numbers(self):
        self.texts([num(1, 1)], (1, 0, 0), (10, 10, 0))
        self.texts([num(1, 2)], (1, 0, 0), (10, 10, 0), (40, 40, 0))
        self.texts([num(2, 2)], (1, 0, 0), (10, 0, 0), (40, 40, 0))
        self.texts([num(2, 3)], (1, 0, 0), (9, 0, 0), (40, 40, 0), (40, 40, 0))
        self.first([num(2, 2)], "00", None)
        self.first([num(2, 3)], "10", None)
        self.first([num(1, 3)], "0", None)
        self.first([num(2, 3), num(1, 2)], "100", "1010")
        # "110" has two scannings, but only texts up to "049" are kept.
        self.first([num(1, 2), num(1, 2)], "00", None)

    def test_a_zero_that_stands_alone_goes_no_further(self):
        self.first([num(1, 4), lit("-")], "0-", None)
        self.texts([num(1, 4), lit("-")], (1, 0, 0), (10, 0, 0), (40, 5, 0), (40, 4, 0), (40, 4, 0), (36, 36, 0))

    def test_words(self):
        self.texts([word(1, 1)], (1, 0, 0), (26, 26, 0))
        self.texts([word(1, 4)], (1, 0, 0), (26, 26, 0), (40, 40, 0), (40, 40, 0), (40, 40, 0))
        self.texts([word(1, 2), word(1, 2)], (1, 0, 0), (26, 0, 0), (40, 40, 0), (40, 40, 40), (40, 40, 0))
        self.first([word(3, 4)], "aaa", None)

    def test_the_first_40(self):
        # Of length 2 there are 100 ahead of "zz", of which 40 are kept.
        row = [alt([num(2, 2), lit("--------")], [lit("zz")])]
        self.first(row, None, None)
        self.texts(row, (1, 0, 0), (11, 0, 0), *[(40, 0, 0)] * 5)
        self.assertEqual(run(format_call(*row), scan_call("zz"), far_call("z"))[1:], [[1, 1, 1], [1, 0, 1, 122]])
        row = [alt([num(2, 2), lit("--------")], [lit(" zzz")])]
        self.first(row, " zzz", None)
        self.texts(row, (1, 0, 0), (11, 0, 0), (40, 0, 0), (40, 0, 0), (40, 1, 0), (39, 0, 0), (39, 0, 0))

    def test_just_40_and_one_more(self):
        # Ten digits, then four bytes behind each of them, or five behind one.
        four = alt([alt([lit("a")], [lit("b")])], [alt([lit("c")], [lit("d")])])
        self.texts([num(1, 1), four], (1, 0, 0), (10, 0, 0), (40, 40, 0))
        row = [alt([num(1, 1), four], [lit("9e")])]
        self.texts(row, (1, 0, 0), (10, 0, 0), (40, 40, 0))
        row = [alt([num(1, 1), four], [lit("0 ")])]
        self.texts(row, (1, 0, 0), (10, 0, 0), (40, 40, 0))
        self.first(row, "0 ", None)
        # "9d" isn't kept then, so nothing goes on by it.
        row = [alt([num(1, 1), four], [alt([lit("0 ")], [lit("9de")])])]
        self.texts(row, (1, 0, 0), (10, 0, 0), (40, 40, 0))
        row = [alt([num(1, 1), four], [lit("9de")])]
        self.texts(row, (1, 0, 0), (10, 0, 0), (40, 40, 0), (1, 1, 0))

    def test_repeats(self):
        row = [rep(",", 1, 3, alt([lit("a")], [lit("b")]))]
        self.first(row, "a", None)
        self.texts(row, (1, 0, 0), (2, 2, 0), (2, 0, 0), (4, 4, 0), (4, 0, 0), (8, 8, 0))
        row = [rep("", 0, 2, opt(lit("a")))]
        self.first(row, "", "")
        self.texts(row, (1, 1, 1), (1, 1, 1), (1, 1, 0))

    def test_many_scannings(self):
        self.first([rep("", 0, 4)] * 8, "", "")
        self.texts([rep("", 0, 4)] * 8, (1, 1, 1))
        row = [opt(lit("a"))] * 7
        self.first(row, "", "a")
        self.texts(row, (1, 1, 0), *[(1, 1, 1)] * 6)

    def test_two_scannings(self):
        row = [alt([word(1, 1)], [lit("q")]), opt(lit("q"))]
        self.first(row, "a", "q")
        self.texts(row, (1, 0, 0), (26, 26, 1), (26, 26, 1))
        self.assertEqual(run(format_call(*row), count_call("q"), count_call("qq"), count_call("a"))[1:], [[2], [2], [1]])

    def test_lengths(self):
        self.assertEqual(
            run(*[texts_call(length) for length in (-HUGE, -7, -2, -1, 0, 1, 6, 7, 8, 40, HUGE)]),
            [[-3]] * 4 + [[1, 1, 0], [0, 0, 0], [0, 0, 0]] + [[-3]] * 4)
        row = [rep("", 4, 4, word(1, 1)), rep("", 0, 2, opt())]
        self.assertEqual(
            run(format_call(*row), texts_call(-1), texts_call(0), texts_call(6), texts_call(7), texts_call(4))[1:],
            [[-3], [1, 0, 0], [0, 0, 0], [-3], [40, 40, 40]])


if __name__ == "__main__":
    unittest.main()

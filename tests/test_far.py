"""The call far: the furthest place, whether a way is done there, what is wished there."""

import unittest

from helper import DIGITS, LETTERS, alt, far_call, format_call, lit, num, opt, raw_far, rep, run, text_list, word


class FarTest(unittest.TestCase):
    def goes(self, row, text, place, done, wished):
        """The answer; wished is all that's wished, rising."""
        answer = [place, done] + text_list(wished)
        self.assertEqual(run(format_call(*row), far_call(text))[1], answer, (row, text))

    def test_no_pieces(self):
        self.assertEqual(run(far_call(""), far_call("a")), [[0, 1, 0], [0, 1, 0]])
        for row in ([], [alt([], [])], [opt()], [rep("", 0, 4)], [rep("a", 0, 0, lit("b"))], [opt(alt([opt()], []))]):
            self.goes(row, "", 0, 1, "")
            self.goes(row, "a", 0, 1, "")

    def test_literals(self):
        for row in ([lit("abc")], [lit("ab"), lit("c")]):
            self.goes(row, "", 0, 0, "a")
            self.goes(row, "a", 1, 0, "b")
            self.goes(row, "ab", 2, 0, "c")
            self.goes(row, "abc", 3, 1, "")
            self.goes(row, "abcd", 3, 1, "")
            self.goes(row, "abx", 2, 0, "c")
            self.goes(row, "xbc", 0, 0, "a")
        self.goes([lit(" "), lit("~")], " ", 1, 0, "~")
        self.goes([lit("abcdefgh")], "abcdefg", 7, 0, "h")

    def test_numbers_of_one_length(self):
        row = [num(3, 3)]
        for text, place in (("", 0), ("0", 1), ("00", 2), ("9", 1), ("90", 2), ("0x", 1), ("00:", 2), ("/", 0)):
            self.goes(row, text, place, 0, DIGITS)
        for text in ("000", "007", "123", "0071", "1234", "007x"):
            self.goes(row, text, 3, 1, "")
        self.goes([num(1, 1)], "", 0, 0, DIGITS)
        self.goes([num(1, 1)], "0", 1, 1, "")
        self.goes([num(1, 1)], "12", 1, 1, "")

    def test_numbers_of_several_lengths(self):
        row = [num(1, 3)]
        self.goes(row, "", 0, 0, DIGITS)
        self.goes(row, "x", 0, 0, DIGITS)
        self.goes(row, "1", 1, 1, DIGITS)
        self.goes(row, "1x", 1, 1, DIGITS)
        self.goes(row, "10", 2, 1, DIGITS)
        self.goes(row, "100", 3, 1, "")
        self.goes(row, "1000", 3, 1, "")

    def test_a_zero_that_stands_alone(self):
        for hi in (2, 3, 4):
            for text in ("0", "00", "01", "0x"):
                self.goes([num(1, hi)], text, 1, 1, "")
                self.goes([num(1, hi), lit("-")], text, 1, 0, "-")
            self.goes([num(1, hi), num(1, hi)], "0", 1, 0, DIGITS)
            self.goes([num(1, hi), num(1, hi)], "00", 2, 1, "")
            self.goes([num(1, hi), num(2, 2)], "00", 2, 0, DIGITS)
        self.goes([num(1, 2), lit("-")], "1", 1, 0, "-" + DIGITS)

    def test_a_zero_in_front(self):
        for lo, hi in ((2, 3), (2, 4), (3, 4)):
            for text in ("", "0", "01", "00", "012", "x"):
                self.goes([num(lo, hi)], text, 0, 0, DIGITS[1:])
            self.goes([num(lo, hi)], "1", 1, 0, DIGITS)
        self.goes([num(2, 3)], "10", 2, 1, DIGITS)
        self.goes([num(2, 3)], "100", 3, 1, "")
        self.goes([lit("a"), num(2, 3)], "a0", 1, 0, DIGITS[1:])

    def test_words(self):
        row = [word(1, 2)]
        for text in ("", "A", "`", "{", "1"):
            self.goes(row, text, 0, 0, LETTERS)
        for text in ("a", "z", "aA", "z{", "a`", "a1"):
            self.goes(row, text, 1, 1, LETTERS)
        for text in ("az", "aza", "az1"):
            self.goes(row, text, 2, 1, "")
        self.goes([word(2, 3)], "a", 1, 0, LETTERS)
        self.goes([word(2, 3)], "ab", 2, 1, LETTERS)
        self.goes([word(2, 2)], "a", 1, 0, LETTERS)
        self.goes([word(2, 2)], "ab", 2, 1, "")

    def test_behind_lo_a_way_goes_on(self):
        self.goes([word(1, 3), lit("!")], "a", 1, 0, "!" + LETTERS)
        self.goes([word(1, 3), lit("!")], "abc", 3, 0, "!")
        self.goes([word(1, 3), lit("b")], "ab", 2, 1, LETTERS)
        self.goes([word(1, 2), word(1, 2)], "a", 1, 0, LETTERS)
        self.goes([word(1, 2), word(1, 2)], "abc", 3, 1, LETTERS)
        self.goes([word(1, 2), word(1, 2)], "abcd", 4, 1, "")
        self.goes([num(1, 2), opt(lit("-")), word(1, 1)], "1", 1, 0, "-" + DIGITS + LETTERS)

    def test_alternatives(self):
        self.goes([alt([lit("ab")], [lit("ac")])], "", 0, 0, "a")
        self.goes([alt([lit("ab")], [lit("ac")])], "a", 1, 0, "bc")
        self.goes([alt([lit("ac")], [lit("ab")])], "ax", 1, 0, "bc")
        self.goes([alt([], [lit("a")])], "", 0, 1, "a")
        self.goes([alt([lit("a")], []), lit("b")], "", 0, 0, "ab")
        self.goes([alt([lit("z")], [lit("A")]), lit("b")], "x", 0, 0, "Az")
        self.goes([alt([lit("z"), lit("y")], [word(1, 1), num(1, 1)])], "z", 1, 0, DIGITS + "y")

    def test_only_the_furthest_place(self):
        row = [alt([lit("a")], [lit("abc")])]
        self.goes(row, "", 0, 0, "a")
        self.goes(row, "a", 1, 1, "b")
        self.goes(row, "ax", 1, 1, "b")
        self.goes(row, "ab", 2, 0, "c")
        self.goes(row, "abx", 2, 0, "c")
        self.goes(row, "abc", 3, 1, "")
        self.goes([alt([lit("abc")], [word(2, 2)])], "abx", 2, 1, "c")
        self.goes([alt([lit("xy")], [lit("ab")])], "a", 1, 0, "b")

    def test_optional_parts(self):
        self.goes([opt(lit("a")), lit("b")], "", 0, 0, "ab")
        self.goes([opt(lit("a")), lit("b")], "a", 1, 0, "b")
        self.goes([opt(lit("a"))], "", 0, 1, "a")
        self.goes([opt(lit("a"))], "a", 1, 1, "")
        self.goes([opt(num(2, 3)), opt(num(2, 2))], "", 0, 1, DIGITS)
        self.goes([opt(opt(lit("a")), lit("b")), lit("c")], "", 0, 0, "abc")

    def test_repeats(self):
        row = [rep(", ", 0, 3, num(1, 1))]
        self.goes(row, "", 0, 1, DIGITS)
        self.goes(row, "1", 1, 1, ",")
        self.goes(row, "1,", 2, 0, " ")
        self.goes(row, "1, ", 3, 0, DIGITS)
        self.goes(row, "1, 2", 4, 1, ",")
        self.goes(row, "1, 2, 3", 7, 1, "")
        self.goes(row, "1, 2, 3, ", 7, 1, "")
        self.goes(row + [lit(",,")], "1", 1, 0, ",")
        self.goes(row + [lit(",,")], "1,", 2, 0, " ,")
        self.goes([rep("", 0, 2, lit("ab"))], "ab", 2, 1, "a")
        self.goes([rep("", 0, 2, lit("ab"))], "abab", 4, 1, "")

    def test_times_of_repeats(self):
        self.goes([rep(",", 1, 2, num(1, 1))], "", 0, 0, DIGITS)
        self.goes([rep(",", 2, 2, num(1, 1))], "1", 1, 0, ",")
        self.goes([rep(",", 2, 4, num(1, 1))], "1", 1, 0, ",")
        self.goes([rep(",", 0, 0, num(1, 1)), lit("x")], "", 0, 0, "x")
        self.goes([rep(",", 0, 0, num(1, 1))], "1", 0, 1, "")
        self.goes([rep(",", 0, 1, num(1, 1))], "1", 1, 1, "")

    def test_repeats_of_no_bytes(self):
        self.goes([rep("ab", 0, 4)], "", 0, 1, "a")
        self.goes([rep("ab", 0, 4)], "a", 1, 0, "b")
        self.goes([rep("ab", 0, 4)], "ab", 2, 1, "a")
        self.goes([rep("ab", 0, 4)], "ababab", 6, 1, "")
        self.goes([rep("ab", 2, 2)], "", 0, 0, "a")
        self.goes([rep("ab", 1, 1)], "", 0, 1, "")
        self.goes([rep("-", 0, 2, opt(lit("a")))], "", 0, 1, "-a")
        self.goes([rep("-", 0, 2, opt(lit("a")))], "-", 1, 1, "a")
        self.goes([rep("-", 0, 2, alt([], [lit("-")]))], "-", 1, 1, "-")

    def test_24_and_25_bytes(self):
        row = [lit("abcdefgh"), lit("abcdefgh"), lit("abcdefgh"), lit("i")]
        self.goes(row, "abcdefgh" * 3, 24, 0, "i")
        self.goes(row[:3], "abcdefgh" * 3, 24, 1, "")
        self.goes(row, "abcdefgh" * 2 + "abcdefgx", 23, 0, "h")
        self.assertEqual(run(format_call(*row), far_call("abcdefgh" * 3 + "i")), [[4, 0], [-1]])
        self.goes([word(1, 4)] * 8, "a" * 24, 24, 1, LETTERS)

    def test_refusals(self):
        # What far refuses beside scan, count and kth stands in test_scan.
        for numbers in ([], [1], [0, 97], [2, 97], [1, 31], [1, 127], [-1], [25] + [97] * 25, [40] + [97] * 39):
            self.assertEqual(run(raw_far(numbers)), [[-1]])
        self.goes([lit(" "), lit("~")], " ~", 2, 1, "")


if __name__ == "__main__":
    unittest.main()

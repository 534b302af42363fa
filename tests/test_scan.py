"""The calls scan, count and kth: scannings, their order; the refusals of texts, far's too."""

import unittest

from helper import (
    alt, count_call, format_call, kth_call, lit, num, opt, raw_count, raw_far, raw_kth, raw_scan, rep, run, scanned, scan_call,
    text_list, with_count, word)

HUGE = 10 ** 18


class ScanTest(unittest.TestCase):
    def has(self, row, text, *values):
        """The text has just these scannings, in this order."""
        calls = [format_call(*row), count_call(text), scan_call(text)]
        calls += [kth_call(number, text) for number in range(len(values))]
        calls += [kth_call(number, text) for number in (len(values), len(values) + 1, HUGE, -1, -2, -HUGE)]
        answers = run(*calls)[1:]
        wanted = [[len(values)], scanned(*values[0]) if values else [0]]
        wanted += [with_count(value) for value in values] + [[-2]] * 6
        self.assertEqual(answers, wanted, (row, text))

    def test_no_pieces(self):
        self.has([], "", ())
        self.has([], "a")

    def test_without_a_format(self):
        self.assertEqual(
            run(scan_call(""), count_call(""), kth_call(0, ""), scan_call("a"), count_call("a"), kth_call(0, "a"),
                kth_call(1, "")),
            [[1, 0], [1], [0], [0], [0], [-2], [-2]])

    def test_literals(self):
        self.has([lit("ab"), lit("c")], "abc", ())
        self.has([lit("ab"), lit("c")], "ab")
        self.has([lit("ab"), lit("c")], "a")
        self.has([lit("ab"), lit("c")], "abcc")
        self.has([lit("ab"), lit("c")], "ABC")
        self.has([lit("ab"), lit("c")], "")

    def test_numbers_of_one_length(self):
        self.has([num(1, 1)], "0", (0,))
        self.has([num(3, 3)], "007", (7,))
        self.has([num(3, 3)], "000", (0,))
        self.has([num(3, 3)], "999", (999,))
        self.has([num(4, 4)], "0120", (120,))
        for text in ("", "0", "07", "0007", "+07", "0 7", "/07", "00:", "00/", ":00"):
            self.has([num(3, 3)], text)

    def test_numbers_of_several_lengths(self):
        self.has([num(1, 3)], "0", (0,))
        self.has([num(1, 3)], "9", (9,))
        self.has([num(1, 3)], "10", (10,))
        self.has([num(1, 3)], "100", (100,))
        self.has([num(2, 4)], "10", (10,))
        self.has([num(1, 4)], "9999", (9999,))
        for text in ("", "00", "01", "001", "1000", "a", "1a", "-1"):
            self.has([num(1, 3)], text)
        for text in ("0", "1", "01", "00", "012"):
            self.has([num(2, 3)], text)

    def test_words(self):
        self.has([word(1, 3)], "a", (1, 0))
        self.has([word(1, 3)], "zay", (3, 25, 0, 24))
        self.has([word(2, 2)], "az", (2, 0, 25))
        for text in ("", "abcd", "A", "aB", "`", "{", "a1", "a b"):
            self.has([word(1, 3)], text)
        for text in ("a", "abcd"):
            self.has([word(2, 3)], text)

    def test_longer_first(self):
        self.has([num(1, 3), num(1, 3)], "1234", (123, 4), (12, 34), (1, 234))
        self.has([num(1, 3), num(1, 3)], "1200", (120, 0), (1, 200))
        self.has([num(1, 3), num(1, 3)], "101", (10, 1))
        self.has([num(1, 3), num(3, 3)], "1001", (1, 1))
        self.has([num(1, 3), num(1, 1), num(1, 3)], "10203", (102, 0, 3), (1, 0, 203))

    def test_longer_first_of_words(self):
        self.has([word(1, 4), word(1, 4)], "abcde",
                 (4, 0, 1, 2, 3, 1, 4), (3, 0, 1, 2, 2, 3, 4), (2, 0, 1, 3, 2, 3, 4), (1, 0, 4, 1, 2, 3, 4))

    def test_the_first_alternative_first(self):
        self.has([alt([word(1, 1)], [word(1, 2)]), opt(lit("b"))], "ab", (0, 1, 0, 1), (1, 2, 0, 1, 0), (1, 1, 0, 1))
        self.has([alt([lit("a")], [lit("a")])], "a", (0,), (1,))
        self.has([alt([], [])], "", (0,), (1,))
        self.has([alt([lit("a")], [])], "", (1,))
        self.has([alt([lit("a")], [])], "a", (0,))
        self.has([alt([lit("a")], [])], "b")

    def test_there_before_not_there(self):
        self.has([opt(num(1, 1)), opt(num(1, 1))], "5", (1, 5, 0), (0, 1, 5))
        self.has([opt()], "", (1,), (0,))
        self.has([opt(), opt()], "", (1, 1), (1, 0), (0, 1), (0, 0))
        self.has([opt(lit("a"))], "a", (1,))
        self.has([opt(lit("a"))], "", (0,))
        self.has([opt(lit("a"))], "aa")

    def test_more_times_first(self):
        self.has([rep("", 0, 3, word(1, 2))], "abc",
                 (3, 1, 0, 1, 1, 1, 2), (2, 2, 0, 1, 1, 2), (2, 1, 0, 2, 1, 2))
        self.has([rep("", 0, 2, lit("a")), rep("", 0, 2, lit("a"))], "aa", (2, 0), (1, 1), (0, 2))
        self.has([rep("", 1, 3, num(1, 1))], "")
        self.has([rep("", 1, 3, num(1, 1))], "1234")
        self.has([rep("", 0, 3, num(1, 1))], "", (0,))
        self.has([rep("", 2, 2, num(1, 1))], "12", (2, 1, 2))
        self.has([rep("", 0, 0, num(1, 1))], "", (0,))
        self.has([rep("", 0, 0, num(1, 1))], "1")

    def test_time_by_time(self):
        self.has([rep("", 2, 2, word(1, 3))], "abcd",
                 (2, 3, 0, 1, 2, 1, 3), (2, 2, 0, 1, 2, 2, 3), (2, 1, 0, 3, 1, 2, 3))
        self.has([rep("", 2, 2, opt(lit("a")), opt(lit("a")))], "a",
                 (2, 1, 0, 0, 0), (2, 0, 1, 0, 0), (2, 0, 0, 1, 0), (2, 0, 0, 0, 1))

    def test_times_come_ahead_of_what_they_hold(self):
        self.has([rep("", 1, 2, word(1, 2))], "ab", (2, 1, 0, 1, 1), (1, 2, 0, 1))

    def test_own_pieces_ahead_of_what_stands_behind(self):
        self.has([opt(word(1, 2)), word(1, 2)], "ab", (1, 1, 0, 1, 1), (0, 2, 0, 1))
        self.has([alt([word(1, 2)], [word(1, 2)]), word(1, 2)], "abc",
                 (0, 2, 0, 1, 1, 2), (0, 1, 0, 2, 1, 2), (1, 2, 0, 1, 1, 2), (1, 1, 0, 2, 1, 2))
        self.has([opt(opt(lit("a")), opt(lit("a"))), opt(lit("a"))], "a",
                 (1, 1, 0, 0), (1, 0, 1, 0), (1, 0, 0, 1), (0, 1))

    def test_separators(self):
        row = [rep(", ", 0, 3, num(1, 2))]
        self.has(row, "1, 20, 3", (3, 1, 20, 3))
        self.has(row, "12", (1, 12))
        self.has(row, "", (0,))
        for text in ("1,", "1, ", ", 1", "1,2", "1, 2, ", "1  2", "1, 2, 3, 4", "12, 012"):
            self.has(row, text)
        self.has([rep("1", 1, 2, num(1, 2))], "111", (2, 1, 1))
        self.has([rep("1", 1, 3, num(1, 2))], "1111", (2, 11, 1), (2, 1, 11))

    def test_repeats_of_no_pieces(self):
        self.has([rep("", 0, 4)], "", (4,), (3,), (2,), (1,), (0,))
        self.has([rep("", 2, 3)], "", (3,), (2,))
        self.has([rep("", 0, 4)], "a")
        self.has([rep("a", 0, 4)], "", (1,), (0,))
        self.has([rep("a", 0, 4)], "a", (2,))
        self.has([rep("a", 0, 4)], "aaa", (4,))
        self.has([rep("a", 0, 4)], "aaaa")
        self.has([rep("", 0, 4), rep("", 3, 4)], "",
                 (4, 4), (4, 3), (3, 4), (3, 3), (2, 4), (2, 3), (1, 4), (1, 3), (0, 4), (0, 3))

    def test_repeats_that_may_be_of_no_bytes(self):
        self.has([rep("", 0, 2, opt(lit("a")))], "a", (2, 1, 0), (2, 0, 1), (1, 1))
        self.has([rep("", 0, 2, opt(lit("a")))], "", (2, 0, 0), (1, 0), (0,))
        self.has([rep("-", 0, 2, alt([], [lit("a")]))], "-", (2, 0, 0))
        self.has([rep("-", 0, 2, alt([], [lit("-")]))], "--", (2, 0, 1), (2, 1, 0))

    def test_a_list_of_parts(self):
        row = [rep(";", 0, 2, alt([word(1, 2)], [lit("#"), opt(num(2, 2))])), num(1, 2)]
        self.has(row, "ab;#0710", (2, 0, 2, 0, 1, 1, 1, 7, 10))
        self.has(row, "#10", (1, 1, 0, 10))
        self.has(row, "#107", (1, 1, 1, 10, 7))
        self.has(row, "#1077", (1, 1, 1, 10, 77))

    def test_text_of_24_bytes(self):
        self.has([lit("abcdefgh"), lit("abcdefgh"), lit("abcdefgh")], "abcdefgh" * 3, ())
        self.has([rep("", 4, 4, lit("abcdef"))], "abcdef" * 4, (4,))

    def test_all_bytes_from_32_to_126(self):
        signs = "".join(map(chr, range(32, 127)))
        for place in range(0, len(signs), 8):
            part = signs[place:place + 8]
            self.has([lit(part)], part, ())


class RefusalTest(unittest.TestCase):
    def refused(self, numbers):
        for row in ([], [word(1, 4)], [rep("", 0, 4)]):
            calls = [format_call(*row), raw_scan(numbers), raw_count(numbers)]
            # Whether there's such a scanning isn't looked at then.
            calls += [raw_kth(number, numbers) for number in (0, 1, -1, HUGE, -HUGE)]
            calls.append(raw_far(numbers))
            self.assertEqual(run(*calls)[1:], [[-1]] * 8, numbers)

    def taken(self, numbers, count):
        value = [0] if count else [-2]
        self.assertEqual(
            run(raw_scan(numbers), raw_count(numbers), raw_kth(0, numbers), raw_far(numbers)),
            [[1, 0] if count else [0], [count], value, [0, 1, 0]])

    def test_lengths(self):
        self.taken([0], 1)
        self.taken([1, 97], 0)
        self.taken([24] + [97] * 24, 0)
        self.refused([25] + [97] * 25)
        self.refused([39] + [97] * 39)
        self.refused([40] + [97] * 39)

    def test_bytes(self):
        for byte in (32, 126):
            self.taken([1, byte], 0)
            self.taken([24] + [97] * 23 + [byte], 0)
        for byte in (31, 127, 0, -1, 255, HUGE, -HUGE):
            self.refused([1, byte])
            self.refused([2, 97, byte])
            self.refused([24] + [97] * 23 + [byte])

    def test_counts(self):
        self.refused([])
        self.refused([1])
        self.refused([2, 97])
        self.refused([0, 97])
        self.refused([1, 97, 97])
        self.refused([24] + [97] * 23)
        self.refused([24] + [97] * 25)
        self.refused([-1])
        self.refused([-1, 97])
        self.refused([HUGE])
        self.refused([HUGE, 97])
        self.refused([-HUGE, 97])

    def test_the_text_is_looked_at_before_the_number(self):
        bad = [1, 31]
        good = text_list("a")
        self.assertEqual(run(raw_kth(-1, bad), raw_kth(-1, good), raw_kth(HUGE, bad), raw_kth(HUGE, good)),
                         [[-1], [-2], [-1], [-2]])


if __name__ == "__main__":
    unittest.main()

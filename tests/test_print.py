"""The call print: prints of values, values without one; the refusals of values, again's too."""

import unittest

from helper import alt, again_call, format_call, lit, num, opt, print_call, raw_again, raw_print, rep, run, text_list, word

HUGE = 10 ** 18


class PrintTest(unittest.TestCase):
    def shows(self, row, value, text):
        self.assertEqual(run(format_call(*row), print_call(*value))[1], [1] + text_list(text), (row, value))

    def shows_none(self, row, *values):
        for value in values:
            given = run(format_call(*row), print_call(*value), again_call(*value))
            self.assertEqual(given[1:], [[0], [0]], (row, value))

    def refused(self, numbers):
        for row in ([], [num(1, 4)], [word(1, 4)]):
            self.assertEqual(run(format_call(*row), raw_print(numbers), raw_again(numbers))[1:], [[-1]] * 2, numbers)

    def test_no_pieces(self):
        self.assertEqual(run(print_call(), print_call(0), print_call(1)), [[1, 0], [0], [0]])

    def test_literals(self):
        self.shows([lit("a")], [], "a")
        self.shows([lit(" ~abcdef"), lit("7")], [], " ~abcdef7")
        self.shows_none([lit("a")], [0], [97])

    def test_numbers_of_one_length(self):
        self.shows([num(1, 1)], [0], "0")
        self.shows([num(1, 1)], [9], "9")
        self.shows([num(3, 3)], [0], "000")
        self.shows([num(3, 3)], [7], "007")
        self.shows([num(3, 3)], [70], "070")
        self.shows([num(3, 3)], [999], "999")
        self.shows([num(4, 4)], [12], "0012")
        self.shows([num(4, 4)], [9999], "9999")
        self.shows_none([num(1, 1)], [10], [9999], [])
        self.shows_none([num(3, 3)], [1000], [7, 0])

    def test_numbers_of_several_lengths(self):
        self.shows([num(1, 2)], [0], "0")
        self.shows([num(1, 2)], [7], "7")
        self.shows([num(1, 2)], [10], "10")
        self.shows([num(1, 2)], [99], "99")
        self.shows([num(2, 3)], [10], "10")
        self.shows([num(2, 3)], [999], "999")
        self.shows([num(1, 4)], [9999], "9999")
        self.shows([num(3, 4)], [100], "100")
        self.shows_none([num(1, 2)], [100], [9999], [])
        self.shows_none([num(2, 3)], [0], [9], [1000])
        self.shows_none([num(3, 4)], [0], [99])

    def test_words(self):
        self.shows([word(1, 2)], [1, 0], "a")
        self.shows([word(1, 2)], [2, 25, 0], "za")
        self.shows([word(4, 4)], [4, 0, 1, 24, 25], "abyz")
        self.shows_none([word(1, 2)], [1, 26], [2, 0, 26], [1, 97], [1, 9999], [0], [3, 0, 0, 0], [2, 0], [1], [])
        self.shows_none([word(2, 3)], [1, 0], [4, 0, 0, 0, 0], [2, 0, 0, 0])

    def test_alternatives(self):
        row = [alt([lit("x"), num(1, 1)], [word(1, 1)]), lit("!")]
        self.shows(row, [0, 5], "x5!")
        self.shows(row, [1, 1, 5], "f!")
        self.shows([alt([], [lit("b")])], [0], "")
        self.shows([alt([lit("a")], [])], [1], "")
        self.shows_none(row, [2, 5], [2], [9999, 1, 5], [0], [1], [], [0, 1, 5], [5])

    def test_optional_parts(self):
        row = [opt(num(1, 1)), lit("!")]
        self.shows(row, [1, 5], "5!")
        self.shows(row, [0], "!")
        self.shows([opt()], [1], "")
        self.shows([opt()], [0], "")
        self.shows_none(row, [2], [2, 5], [0, 5], [1], [], [9999])

    def test_repeats(self):
        row = [rep(", ", 1, 3, num(1, 1))]
        self.shows(row, [1, 5], "5")
        self.shows(row, [2, 5, 6], "5, 6")
        self.shows(row, [3, 5, 6, 7], "5, 6, 7")
        self.shows([rep("", 0, 4, num(1, 1))], [4, 1, 2, 3, 4], "1234")
        self.shows([lit("("), rep("-", 0, 4, lit("a")), lit(")")], [0], "()")
        self.shows([lit("("), rep("-", 0, 4, lit("a")), lit(")")], [4], "(a-a-a-a)")
        self.shows([rep("-", 0, 4)], [0], "")
        self.shows([rep("-", 0, 4)], [1], "")
        self.shows([rep("-", 0, 4)], [4], "---")
        self.shows([rep("-", 0, 0, num(1, 1))], [0], "")
        self.shows_none(row, [0], [4, 1, 2, 3, 4], [2, 5], [2, 5, 6, 7], [1], [], [9999])
        self.shows_none([rep("-", 0, 0, num(1, 1))], [1, 1], [])

    def test_pieces_within_repeats(self):
        row = [rep(";", 0, 2, alt([word(1, 2)], [lit("#"), opt(num(2, 2))])), num(1, 2)]
        self.shows(row, [2, 0, 2, 0, 1, 1, 1, 7, 10], "ab;#0710")
        self.shows(row, [2, 1, 0, 1, 0, 0], "#;#0")
        self.shows(row, [0, 10], "10")
        self.shows_none(row, [2, 1, 0, 1, 0], [1, 1, 2, 0], [2, 0, 2, 0, 1, 1, 1, 100, 10])

    def test_left_over_or_too_few(self):
        row = [num(1, 4), lit("-"), word(1, 2), opt(num(1, 1))]
        value = [12, 2, 0, 1, 1, 9]
        self.shows(row, value, "12-ab9")
        self.shows_none(row, *[value[:length] for length in range(len(value))])
        self.shows_none(row, value + [0])

    def test_longest_print(self):
        row = [rep("ssssssss", 4, 4, *[lit("abcdefgh")] * 13)]
        self.assertEqual(run(format_call(*row))[0], [14, 1])
        self.shows(row, [4], "ssssssss".join(["abcdefgh" * 13] * 4))

    def test_refused_numbers(self):
        self.refused([1, -1])
        self.refused([1, 10000])
        self.refused([2, 0, -1])
        self.refused([2, 0, 10000])
        self.refused([1, HUGE])
        self.refused([1, -HUGE])

    def test_refused_counts(self):
        self.refused([])
        self.refused([1])
        self.refused([2, 0])
        self.refused([0, 0])
        self.refused([1, 0, 0])
        self.refused([-1])
        self.refused([-1, 0])
        self.refused([HUGE])
        self.refused([-HUGE])
        self.refused([HUGE, 1])

    def test_40_and_41_numbers(self):
        self.assertEqual(
            run(print_call(*[0] * 40), print_call(*[9999] * 40), again_call(*[0] * 40), again_call(*[9999] * 40)),
            [[0]] * 4)
        self.refused([41] + [0] * 41)
        self.refused([40] + [0] * 41)
        self.refused([41] + [0] * 40)
        self.refused([40] + [0] * 39)
        self.refused([49] + [0] * 49)
        self.refused([50] + [0] * 49)


if __name__ == "__main__":
    unittest.main()

"""The call again: a value's print, and which of its scannings the value is."""

import unittest

from helper import (
    again_call, alt, count_call, format_call, kth_call, lit, num, opt, print_call, raw_again, rep, run, with_count, word)


class AgainTest(unittest.TestCase):
    def among(self, row, *values):
        """The values are all scannings of one text, in this order."""
        calls = [again_call(*value) for value in values]
        wanted = [[1, len(values), int(number == 0), number] for number in range(len(values))]
        self.assertEqual(run(format_call(*row), *calls)[1:], wanted, row)
        prints = run(format_call(*row), *[print_call(*value) for value in values])[1:]
        self.assertEqual(prints, [prints[0]] * len(values))

    def test_no_pieces(self):
        self.assertEqual(run(again_call(), again_call(0)), [[1, 1, 1, 0], [0]])
        self.among([lit("a")], ())
        self.among([alt([], [])], (0,), (1,))
        self.among([opt()], (1,), (0,))
        self.among([rep("", 0, 4)], (4,), (3,), (2,), (1,), (0,))
        self.among([opt(), opt()], (1, 1), (1, 0), (0, 1), (0, 0))

    def test_numbers_and_words(self):
        for number in (0, 9, 10, 9999):
            self.among([num(1, 4)], (number,))
            self.among([num(4, 4)], (number,))
        self.among([num(1, 3), num(1, 3)], (123, 4), (12, 34), (1, 234))
        self.among([num(1, 3), num(1, 3)], (120, 0), (1, 200))
        self.among([num(1, 2), num(2, 2)], (0, 7))
        self.among([word(1, 4), word(1, 4)],
                   (4, 0, 1, 2, 3, 1, 4), (3, 0, 1, 2, 2, 3, 4), (2, 0, 1, 3, 2, 3, 4), (1, 0, 4, 1, 2, 3, 4))

    def test_choices(self):
        self.among([alt([lit("a")], [word(1, 1)]), lit("b")], (0,), (1, 1, 0))
        self.among([opt(num(1, 1)), opt(num(1, 1))], (1, 5, 0), (0, 1, 5))
        self.among([alt([word(1, 2)], [word(1, 2)]), word(1, 2)],
                   (0, 2, 0, 1, 1, 2), (0, 1, 0, 2, 1, 2), (1, 2, 0, 1, 1, 2), (1, 1, 0, 2, 1, 2))

    def test_repeats(self):
        self.among([rep("", 0, 3, word(1, 2))], (3, 1, 0, 1, 1, 1, 2), (2, 2, 0, 1, 1, 2), (2, 1, 0, 2, 1, 2))
        self.among([rep("1", 1, 3, num(1, 2))], (2, 11, 1), (2, 1, 11))
        self.among([rep("", 2, 2, opt(lit("a")), opt(lit("a")))],
                   (2, 1, 0, 0, 0), (2, 0, 1, 0, 0), (2, 0, 0, 1, 0), (2, 0, 0, 0, 1))

    def test_no_print(self):
        # The values without a print are tried in test_print.
        row = [num(2, 3), opt(word(1, 1))]
        for value in ([], [9], [10], [1000, 0], [10, 2], [10, 1], [10, 1, 1, 26], [10, 0, 0]):
            self.assertEqual(run(format_call(*row), again_call(*value))[1], [0], value)

    def test_a_print_longer_than_24_bytes(self):
        row = [lit("abcdefgh"), lit("abcdefgh"), lit("abcdefgh"), word(1, 2), word(1, 2)]
        self.among(row, (2, 0, 0, 1, 0), (1, 0, 2, 0, 0))
        self.assertEqual(
            run(format_call(*row), print_call(1, 0, 1, 0), count_call("abcdefgh" * 3 + "aa"), again_call(1, 0, 1, 0)),
            [[5, 2], [1, 26] + [97, 98, 99, 100, 101, 102, 103, 104] * 3 + [97, 97], [-1], [1, 1, 1, 0]])
        row = [rep("ssssssss", 4, 4, *[lit("abcdefgh")] * 12, opt())]
        self.assertEqual(
            run(format_call(*row), again_call(4, 1, 1, 1, 1), again_call(4, 0, 1, 0, 1), again_call(4, 0, 0, 0, 0)),
            [[14, 5], [1, 16, 1, 0], [1, 16, 0, 10], [1, 16, 0, 15]])

    def test_40_and_41_numbers(self):
        row = [word(1, 4)] * 8
        value = [4, 0, 1, 2, 3] * 8
        self.assertEqual(
            run(format_call(*row), again_call(*value), again_call(*value, 0), raw_again([40] + value),
                raw_again([40] + value[1:])),
            [[8, 8], [1, 1, 1, 0], [-1], [1, 1, 1, 0], [-1]])

    def test_numbers_0_and_9999_and_10000(self):
        self.assertEqual(
            run(format_call(num(1, 4)), again_call(0), again_call(9999), again_call(10000), again_call(-1)),
            [[1, 1], [1, 1, 1, 0], [1, 1, 1, 0], [-1], [-1]])
        self.assertEqual(run(again_call(10000), again_call(1, 10000), again_call(9999)), [[-1], [-1], [0]])

    def test_kth_gives_the_value_back(self):
        row = [rep("", 0, 4, word(1, 3)), opt(word(1, 1)), alt([], [])]
        text = "abcdefg"
        how_many = run(format_call(*row), count_call(text))[1][0]
        self.assertGreater(how_many, 50)
        for number in range(how_many):
            value = run(format_call(*row), kth_call(number, text))[1][1:]
            answers = run(format_call(*row), again_call(*value))
            self.assertEqual(answers[1], [1, how_many, int(number == 0), number])
            self.assertEqual(run(format_call(*row), kth_call(answers[1][3], text))[1], with_count(value))


if __name__ == "__main__":
    unittest.main()

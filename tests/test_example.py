"""The document's example, whole, number by number."""

import unittest

from helper import (
    count_call, kth_call, print_call, raw_again, raw_count, raw_far, raw_format, raw_print, raw_scan, run, scan_call)

SIGNED = [3, 1, 1, 2, 0, 1, 45, 2, 1, 2]
TWO_WORDS = [2, 2, 1, 2, 2, 1, 2]
DIGITS = [1, 5, 1, 44, 0, 3, 1, 1, 1, 1]

SIGNED_CALLS = [
    raw_format(SIGNED), raw_print([3, 7, 1, 0]), raw_scan([5, 49, 50, 45, 97, 98]), raw_far([2, 49, 120]), [7], [8],
    [9, 3]]
SIGNED_ANSWERS = [
    [3, 2], [1, 3, 55, 45, 97], [1, 4, 12, 2, 0, 1], [1, 0, 11, 45, 48, 49, 50, 51, 52, 53, 54, 55, 56, 57],
    [1, 3, 48, 45, 97], [0], [40, 40, 0]]
TWO_WORDS_CALLS = [
    raw_format(TWO_WORDS), raw_count([3, 97, 97, 97]), raw_scan([3, 97, 97, 97]), raw_again([5, 1, 0, 2, 0, 0]), [8]]
TWO_WORDS_ANSWERS = [[2, 2], [2], [1, 5, 2, 0, 0, 1, 0], [1, 2, 0, 1], [1, 3, 97, 97, 97]]
DIGITS_CALLS = [raw_format(DIGITS), raw_scan([3, 49, 44, 50]), raw_far([2, 49, 44]), raw_far([1, 49])]
DIGITS_ANSWERS = [
    [2, 4], [1, 3, 2, 1, 2], [2, 0, 10, 48, 49, 50, 51, 52, 53, 54, 55, 56, 57], [1, 1, 1, 44]]


class ExampleTest(unittest.TestCase):
    def test_number_minus_word(self):
        self.assertEqual(run(*SIGNED_CALLS), SIGNED_ANSWERS)

    def test_two_words(self):
        self.assertEqual(run(*TWO_WORDS_CALLS), TWO_WORDS_ANSWERS)
        self.assertEqual(
            run(TWO_WORDS_CALLS[0], kth_call(0, "aaa"), kth_call(1, "aaa"), kth_call(2, "aaa"))[1:],
            [[5, 2, 0, 0, 1, 0], [5, 1, 0, 2, 0, 0], [-2]])

    def test_digits_with_commas(self):
        self.assertEqual(run(*DIGITS_CALLS), DIGITS_ANSWERS)
        self.assertEqual(
            run(DIGITS_CALLS[0], scan_call("1,"), print_call(2, 1, 2))[1:], [[0], [1, 3, 49, 44, 50]])

    def test_one_line_with_all_formats(self):
        self.assertEqual(
            run(*SIGNED_CALLS, *TWO_WORDS_CALLS, *DIGITS_CALLS), SIGNED_ANSWERS + TWO_WORDS_ANSWERS + DIGITS_ANSWERS)
        self.assertEqual(
            run(raw_format(SIGNED), scan_call("1-a"), raw_format(TWO_WORDS), scan_call("1-a"), count_call("aa"),
                raw_format(DIGITS), scan_call("1-a"), count_call("1,2,3"), count_call("1,2,3,4")),
            [[3, 2], [1, 3, 1, 1, 0], [2, 2], [0], [1], [2, 4], [0], [1], [0]])


if __name__ == "__main__":
    unittest.main()

"""How calls are handed in and answers given back, and what stays as it was."""

import unittest

from allscannings.formats import answers
from helper import (
    again_call, ambiguous_call, count_call, far_call, format_call, kth_call, least_call, lit, num, opt, print_call, rep,
    run, scan_call, texts_call, word)

LINE = (
    format_call(rep(",", 0, 4, num(1, 1))) + print_call(2, 1, 2) + scan_call("1,2") + count_call("1,2")
    + kth_call(0, "1,2") + kth_call(1, "1,2") + print_call(5) + [0, 1, 7] + [1, 1, 7] + [2, 1, 7] + scan_call("zz")
    + far_call("1") + [5, 1, 7] + again_call(2, 1, 2) + again_call(5) + [6, 1, 7] + least_call() + ambiguous_call()
    + texts_call(1) + texts_call(7) + texts_call(-1))
GIVEN = [
    2, 2, 5, 5, 1, 3, 49, 44, 50, 5, 1, 3, 2, 1, 2, 1, 1, 4, 3, 2, 1, 2, 1, -2, 1, 0, 1, -1, 1, -1, 1, -1, 1, 0,
    4, 1, 1, 1, 44, 1, -1, 4, 1, 1, 1, 0, 1, 0, 1, -1, 2, 1, 0, 1, 0, 3, 10, 10, 0, 1, -3, 1, -3]


class AnswersTest(unittest.TestCase):
    def test_counts_and_answers(self):
        self.assertEqual(answers(list(LINE)), GIVEN)

    def test_whole_numbers_in_a_list(self):
        given = answers(list(LINE))
        self.assertIs(type(given), list)
        for number in given:
            self.assertIs(type(number), int)

    def test_what_is_handed_in_is_unchanged(self):
        line = list(LINE)
        answers(line)
        self.assertEqual(line, LINE)

    def test_what_is_given_back_is_new(self):
        first = answers(list(LINE))
        second = answers(list(LINE))
        self.assertIsNot(first, second)
        first.clear()
        self.assertEqual(second, GIVEN)

    def test_nothing_is_kept(self):
        self.assertEqual(run(format_call(lit("x")), count_call("x")), [[1, 0], [1]])
        self.assertEqual(run(count_call("x"), count_call(""), print_call()), [[0], [1], [1, 0]])
        self.assertEqual(run(far_call("x"), least_call(), texts_call(1)), [[0, 1, 0], [1, 0], [0, 0, 0]])
        for turn in range(2):
            self.assertEqual(answers(list(LINE)), GIVEN)

    def test_the_literals_of_a_format_are_not_changed(self):
        calls = [format_call(lit("ab"), rep("cd", 0, 3, lit("e")))]
        calls += [print_call(3), scan_call("abecdecde")] * 3
        self.assertEqual(run(*calls)[1:], [[1, 9, 97, 98, 101, 99, 100, 101, 99, 100, 101], [1, 1, 3]] * 3)
        calls = [calls[0]] + [far_call("abe"), least_call(), texts_call(2), texts_call(4)] * 3
        self.assertEqual(run(*calls)[1:], [[3, 1, 1, 99], [1, 2, 97, 98], [1, 1, 0], [1, 0, 0]] * 3)

    def test_forty_calls(self):
        calls = []
        for digits in range(1, 5):
            calls.append(format_call(num(digits, digits), opt(word(1, 1))))
            for length in range(1, 10):
                calls.append(scan_call("1" * length))
        given = run(*calls)
        self.assertEqual(len(given), 40)
        for digits in range(1, 5):
            part = given[10 * digits - 10:10 * digits]
            self.assertEqual(part[0], [3, 3])
            for length in range(1, 10):
                wanted = [1, 2, int("1" * digits), 0] if length == digits else [0]
                self.assertEqual(part[length], wanted)


if __name__ == "__main__":
    unittest.main()

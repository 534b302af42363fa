"""The call format: what is a format, what it answers, what it changes."""

import unittest

from helper import (
    again_call, alt, ambiguous_call, count_call, far_call, format_call, kth_call, least_call, lit, num, opt, print_call,
    raw_again, raw_count, raw_far, raw_format, raw_print, rep, row_list, run, scan_call, texts_call, word)

HUGE = 10 ** 18


def nested(kind, depth, inner):
    """So many pieces, each within the one ahead of it."""
    row = inner
    for turn in range(depth):
        row = [opt(*row)] if kind == "optional" else [alt(row, [])]
    return row


class FormatTest(unittest.TestCase):
    def accept(self, answer, *row):
        self.assertEqual(run(format_call(*row)), [list(answer)], row)

    def refuse_list(self, numbers):
        """It's refused, and the format of before is still there."""
        self.assertEqual(
            run(format_call(lit("x"), num(1, 2)), raw_format(numbers), scan_call("x7"), print_call(12),
                count_call(""), kth_call(0, "x0")),
            [[2, 1], [-1], [1, 1, 7], [1, 3, 120, 49, 50], [0], [1, 0]], numbers)

    def refuse(self, *row):
        self.refuse_list(row_list(row))

    def test_each_kind(self):
        self.accept((1, 0), lit("a"))
        self.accept((1, 1), num(1, 4))
        self.accept((1, 1), word(1, 4))
        self.accept((3, 2), alt([num(1, 1)], [lit("a")]))
        self.accept((2, 2), opt(word(1, 1)))
        self.accept((2, 4), rep(",", 0, 3, num(1, 1)))
        self.refuse_list([1, 6])
        self.refuse_list([1, 6, 0])
        self.refuse_list([1, -1, 1, 1])
        self.refuse_list([1, HUGE])

    def test_no_pieces(self):
        self.accept((0, 0))
        self.accept((1, 1), alt([], []))
        self.accept((1, 1), opt())
        self.accept((1, 1), rep("", 0, 4))
        self.accept((3, 3), alt([], [opt(alt([], []))]))

    def test_most_pieces(self):
        self.accept((14, 0), *[lit("a")] * 14)
        self.refuse(*[lit("a")] * 15)
        self.accept((14, 1), alt([lit("a")] * 7, [lit("b")] * 6))
        self.refuse(alt([lit("a")] * 7, [lit("b")] * 7))
        self.accept((14, 1), opt(*[lit("a")] * 13))
        self.refuse(opt(*[lit("a")] * 14))
        self.accept((14, 1), *[lit("a")] * 6, rep("", 0, 4, *[lit("a")] * 7))
        self.refuse(*[lit("a")] * 6, rep("", 0, 4, *[lit("a")] * 8))
        self.refuse(*[lit("a")] * 13, opt(lit("b")))

    def test_most_gone_through(self):
        self.accept((8, 8), *[num(1, 1)] * 8)
        self.refuse(*[num(1, 1)] * 9)
        self.accept((8, 8), *[word(1, 1)] * 8)
        self.refuse(*[word(1, 1)] * 9)
        self.accept((8, 8), *[alt([], [])] * 8)
        self.refuse(*[alt([], [])] * 9)
        self.accept((8, 8), *[opt()] * 8)
        self.refuse(*[opt()] * 9)
        self.accept((8, 8), *[rep("", 0, 4)] * 8)
        self.refuse(*[rep("", 0, 4)] * 9)
        self.accept((14, 8), *[num(1, 1)] * 8, *[lit("a")] * 6)

    def test_alternatives_count_the_greater_row(self):
        self.accept((13, 8), alt([num(1, 1)] * 7, [word(1, 1)] * 5))
        self.accept((13, 8), alt([num(1, 1)] * 5, [word(1, 1)] * 7))
        self.refuse(alt([num(1, 1)] * 8, []))
        self.refuse(alt([], [num(1, 1)] * 8))
        self.accept((7, 4), alt([alt([num(1, 1)], [lit("a")])], [opt(opt(num(1, 1)))]))

    def test_optional_counts_those_in_it(self):
        self.accept((8, 8), opt(*[num(1, 1)] * 7))
        self.refuse(opt(*[num(1, 1)] * 8))

    def test_repeat_counts_hi_times_those_in_it(self):
        self.accept((2, 5), rep("", 0, 4, num(1, 1)))
        self.accept((3, 7), rep("", 0, 3, num(1, 1), word(1, 1)))
        self.refuse(rep("", 0, 4, num(1, 1), word(1, 1)))
        self.accept((5, 1), rep("", 0, 4, *[lit("a")] * 4))
        self.accept((13, 1), rep("", 0, 0, *[num(1, 1)] * 12))
        self.accept((14, 8), rep("", 0, 0, *[num(1, 1)] * 6), *[num(1, 1)] * 7)
        self.accept((4, 7), rep("", 3, 3, opt(num(1, 1)), lit("a")))
        self.accept((8, 8), rep("", 1, 1, *[num(1, 1)] * 7))
        self.accept((7, 8), opt(rep("", 0, 2, alt([num(1, 1)], [lit("a")]))), num(1, 1), word(1, 1))

    def accept_nested(self, kind, depth, inner, answer):
        self.accept(answer, *nested(kind, depth, inner))

    def test_nested(self):
        for kind in ("optional", "alternatives"):
            self.accept_nested(kind, 8, [], (8, 8))
            self.accept_nested(kind, 7, [lit("a")], (8, 7))
            self.accept_nested(kind, 8, [lit("a")], (9, 8))
            self.refuse(*nested(kind, 9, []))
            self.refuse(*nested(kind, 14, []))
            self.refuse(*nested(kind, 15, []))
            # Nothing is gone through within a repeat of 0 times.
            self.accept((14, 1), rep("", 0, 0, *nested(kind, 13, [])))
            self.refuse(rep("", 0, 0, *nested(kind, 14, [])))
        self.refuse(*nested("optional", 99, []))
        self.assertEqual(len(row_list(nested("optional", 99, []))), 199)
        self.refuse_list([1, 4] * 100)
        self.refuse_list([1, 3] * 100)
        self.refuse_list([1, 5, 0, 0, 0] * 40)

    def test_lo_and_hi(self):
        for kind in (1, 2):
            for lo in range(1, 5):
                for hi in range(lo, 5):
                    self.assertEqual(run(raw_format([1, kind, lo, hi])), [[1, 1]])
                for hi in range(0, lo):
                    self.refuse_list([1, kind, lo, hi])
            for lo, hi in ((0, 0), (0, 1), (0, 4), (5, 5), (1, 5), (4, 5), (-1, 1), (1, HUGE), (-HUGE, 4)):
                self.refuse_list([1, kind, lo, hi])

    def test_lo_and_hi_of_repeats(self):
        for lo in range(0, 5):
            for hi in range(lo, 5):
                self.assertEqual(run(raw_format([1, 5, 0, lo, hi, 0])), [[1, 1]])
            for hi in range(0, lo):
                self.refuse_list([1, 5, 0, lo, hi, 0])
        for lo, hi in ((5, 5), (0, 5), (4, 5), (-1, 0), (-1, 4), (0, HUGE), (-HUGE, 0)):
            self.refuse_list([1, 5, 0, lo, hi, 0])

    def test_literals(self):
        self.accept((1, 0), lit("a"))
        self.accept((1, 0), lit("abcdefgh"))
        self.refuse(lit(""))
        self.refuse(lit("abcdefghi"))
        self.refuse_list([1, 0, -1])
        self.refuse_list([1, 0, -1, 97])

    def test_separators(self):
        self.accept((1, 1), rep("", 0, 1))
        self.accept((1, 1), rep("abcdefgh", 0, 1))
        self.refuse(rep("abcdefghi", 0, 1))
        self.refuse_list([1, 5, -1, 0, 1, 0])

    def test_bytes(self):
        for byte in (32, 33, 125, 126):
            self.assertEqual(run(raw_format([1, 0, 1, byte])), [[1, 0]])
            self.assertEqual(run(raw_format([1, 5, 2, 65, byte, 0, 1, 0])), [[1, 1]])
        for byte in (31, 127, 0, -1, 10, 128, 255, 256, HUGE, -HUGE):
            self.refuse_list([1, 0, 1, byte])
            self.refuse_list([1, 0, 2, 65, byte])
            self.refuse_list([1, 5, 1, byte, 0, 1, 0])
            self.refuse_list([1, 5, 2, 65, byte, 0, 1, 0])

    def test_repeats_within_repeats(self):
        inner = rep("", 0, 1)
        self.refuse(rep("", 0, 1, inner))
        self.refuse(rep("", 0, 0, inner))
        self.refuse(rep("", 0, 1, lit("a"), inner))
        self.refuse(rep("", 0, 1, opt(inner)))
        self.refuse(rep("", 0, 1, alt([inner], [])))
        self.refuse(rep("", 0, 1, alt([], [inner])))
        self.refuse(rep("", 0, 1, opt(alt([], [opt(inner)]))))
        self.refuse(opt(rep("", 0, 1, opt(inner))))
        self.refuse(alt([], [rep("", 0, 1, inner)]))

    def test_repeats_beside_repeats(self):
        self.accept((2, 2), rep("", 0, 1), rep("", 0, 1))
        self.accept((4, 3), rep("", 0, 1, lit("a")), opt(rep("", 0, 1)))
        self.accept((3, 2), alt([rep("", 0, 1)], [rep("", 0, 1)]))

    def test_left_over(self):
        self.refuse_list([0, 0])
        self.refuse_list([0, 0, 1, 97])
        self.refuse_list([1, 0, 1, 97, 97])
        self.refuse_list([1, 4, 0, 0])
        self.refuse_list([1, 1, 1, 1, 1])
        self.refuse_list([0] * 200)

    def test_ends_too_soon(self):
        whole = row_list([
            lit("ab"), num(1, 2), word(1, 1), alt([lit("c")], []), opt(lit("d")), rep(", ", 0, 1, lit("e"))])
        self.assertEqual(run(raw_format(whole)), [[9, 5]])
        for length in range(len(whole)):
            self.refuse_list(whole[:length])

    def test_counts(self):
        for count in (-1, -2, 15, 200, HUGE, -HUGE):
            self.refuse_list([count])
            self.refuse_list([count, 0, 1, 97])
            self.refuse_list([1, 0, count, 97])
            self.refuse_list([1, 5, count, 0, 1, 0])
            self.refuse_list([1, 4, count])
            self.refuse_list([1, 3, count, 0])
            self.refuse_list([1, 3, 0, count])
            self.refuse_list([1, 5, 0, 0, 1, count])
        self.refuse_list([2, 0, 1, 97])
        self.refuse_list([0, 0, 1, 97])

    def test_the_empty_list(self):
        self.refuse_list([])

    def test_the_longest_list(self):
        self.refuse_list([14] + [0, 8] + [97] * 197)
        self.accept((14, 0), *[lit("abcdefgh")] * 14)

    def test_it_is_the_format_from_now_on(self):
        self.assertEqual(
            run(count_call(""), count_call("a"), format_call(lit("a")), count_call(""), count_call("a"),
                format_call(), count_call(""), count_call("a")),
            [[1], [0], [1, 0], [0], [1], [0, 0], [1], [0]])

    def test_no_other_call_changes_it(self):
        others = [
            print_call(1, 2, 3), scan_call("zz"), count_call("zz"), kth_call(5, "zz"), raw_count([9]),
            raw_print([9]), raw_print([1, -1]), kth_call(-1, "a"), far_call("a"), far_call("zz"), raw_far([9]),
            again_call(0), again_call(7), raw_again([9]), least_call(), ambiguous_call(), texts_call(1), texts_call(6),
            texts_call(-1), texts_call(7)]
        for other in others:
            answers = run(
                format_call(opt(lit("a"))), other, scan_call("a"), count_call(""), far_call(""), least_call(),
                texts_call(1))
            self.assertEqual(
                [answers[0]] + answers[2:], [[2, 1], [1, 1, 1], [1], [0, 1, 1, 97], [1, 0], [1, 1, 0]], other)

    def test_a_refused_format_changes_no_call(self):
        row = [num(1, 1), opt(lit("a"))]
        rest = [
            print_call(5, 0), scan_call("5a"), count_call("5"), kth_call(0, "5a"), far_call("5"), again_call(5, 1),
            least_call(), ambiguous_call(), texts_call(2)]
        wanted = [
            [1, 1, 53], [1, 2, 5, 1], [1], [2, 5, 1], [1, 1, 1, 97], [1, 1, 1, 0], [1, 1, 48], [0], [10, 10, 0]]
        self.assertEqual(run(format_call(*row), *rest)[1:], wanted)
        self.assertEqual(run(format_call(*row), raw_format([1, 6]), *rest)[1:], [[-1]] + wanted)


if __name__ == "__main__":
    unittest.main()

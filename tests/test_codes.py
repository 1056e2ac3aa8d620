"""Points 46 to 49, and the interface's heading topiary/codes.py."""

import itertools
import random
import unittest
from fractions import Fraction

from topiary.codes import code_of, is_full, lengths_of, steps_of
from topiary.errors import InvalidCounts, InvalidLengths


def lengths_by_the_words(counts):
    groups = [[symbol] for symbol, count in enumerate(counts) if count]
    lengths = [0] * len(counts)
    if len(groups) == 1:
        lengths[groups[0][0]] = 1
    while len(groups) > 1:
        groups.sort(key=lambda group: (sum(counts[symbol] for symbol in group), min(group)))
        groups = [groups[0] + groups[1]] + groups[2:]
        for symbol in groups[0]:
            lengths[symbol] += 1
    return lengths


def full_by_the_words(lengths):
    above = [length for length in lengths if length > 0]
    if any(length < 0 for length in lengths):
        return False
    return above in ([], [1]) or sum(Fraction(1, 2 ** length) for length in above) == 1


def code_by_the_words(lengths):
    code = [[] for _ in lengths]
    last = None
    for length, symbol in sorted((length, symbol) for symbol, length in enumerate(lengths) if length):
        last = "0" * length if last is None else format(int(last, 2) + 1, "b").zfill(len(last)).ljust(length, "0")
        code[symbol] = [int(bit) for bit in last]
    return code


class CodesTest(unittest.TestCase):
    def check_lengths(self, counts):
        passed = list(counts)
        lengths = lengths_of(passed)
        self.assertEqual(lengths, lengths_by_the_words(counts))
        self.assertEqual(passed, list(counts))
        self.check_full(lengths)
        return lengths

    def check_full(self, lengths):
        passed = list(lengths)
        self.assertIs(is_full(passed), True)
        code = code_of(passed)
        self.assertEqual(passed, list(lengths))
        self.assertEqual([len(row) for row in code], passed)
        rows = ["".join(map(str, row)) for row in code if row]
        self.assertEqual(len(set(rows)), len(rows))
        # In order, a row that is a beginning of others stands directly ahead of one of them.
        rows = sorted(rows)
        self.assertFalse(any(other.startswith(row) for row, other in zip(rows, rows[1:])))
        self.assertEqual(code, code_by_the_words(passed))

    def check_not_full(self, lengths):
        passed = list(lengths)
        self.assertIs(is_full(passed), False)
        with self.assertRaises(InvalidLengths):
            code_of(passed)
        self.assertEqual(passed, list(lengths))

    def test_example(self):
        told = lengths_of([5, 0, 1, 1, 2]), code_of([1, 0, 3, 3, 2])
        self.assertEqual(told, ([1, 0, 3, 3, 2], [[0], [], [1, 1, 0], [1, 1, 1], [1, 0]]))
        self.assertEqual((steps_of(0), steps_of(4), is_full([1, 2])), ([1], [0, 0, 1, 0, 1], False))
        self.check_not_full([1, 2])

    def test_no_counts_and_zeros(self):
        for many in range(5):
            self.assertEqual(self.check_lengths([0] * many), [0] * many)
            self.assertEqual(code_of([0] * many), [[]] * many)

    def test_one_count_above_0(self):
        for count in (1, 2, 10 ** 30):
            self.assertEqual(self.check_lengths([count]), [1])
            self.assertEqual(self.check_lengths([0, 0, count, 0]), [0, 0, 1, 0])
        self.assertEqual(code_of([0, 1]), [[], [0]])

    def test_equal_counts(self):
        self.assertEqual(self.check_lengths([7, 7]), [1, 1])
        self.assertEqual(self.check_lengths([1, 1, 1]), [2, 2, 1])
        self.assertEqual(self.check_lengths([1] * 4), [2] * 4)
        self.assertEqual(self.check_lengths([3] * 5), [3, 3, 2, 2, 2])
        self.assertEqual(self.check_lengths([3] * 6), [3, 3, 3, 3, 2, 2])
        for many in (7, 8, 33, 96, 200):
            self.check_lengths([5] * many)

    def test_counts_that_double(self):
        self.assertEqual(self.check_lengths([1, 1, 2, 4, 8]), [4, 4, 3, 2, 1])
        self.assertEqual(self.check_lengths([8, 4, 2, 1, 1]), [1, 2, 3, 4, 4])
        counts = [1] + [2 ** k for k in range(60)]
        self.assertEqual(self.check_lengths(counts), [60, 60] + list(range(59, 0, -1)))
        counts = [1, 1]
        while len(counts) < 70:
            counts.append(counts[-1] + counts[-2])
        self.check_lengths(counts)
        self.check_lengths(counts[::-1])

    def test_large_and_many(self):
        dice = random.Random(46)
        self.check_lengths([10 ** 40, 1, 10 ** 40 + 1, 0, 10 ** 39])
        self.check_lengths([dice.randrange(10 ** 50) for _ in range(60)])
        self.check_lengths([dice.randrange(4) for _ in range(300)])
        counts = [dice.randrange(1000) for _ in range(5000)]
        lengths = lengths_of(counts)
        self.check_full(lengths)
        self.assertEqual(sum(length == 0 for length in lengths), sum(count == 0 for count in counts))
        lengths = lengths_of([1] + [2 ** k for k in range(1500)])
        self.assertEqual(lengths, [1500, 1500] + list(range(1499, 0, -1)))

    def test_equal_weights_are_joined_in_the_order_of_heads(self):
        # The group of 0 and 1 has the weight 2 and the head 0, and so comes ahead of 2 and 3.
        self.assertEqual(self.check_lengths([1, 1, 2, 2]), [3, 3, 2, 1])
        self.assertEqual(self.check_lengths([1, 1, 2, 3]), [3, 3, 2, 1])
        # The group of 1 and 3 has the weight 2 and the head 1: behind 0, ahead of 2.
        self.assertEqual(self.check_lengths([2, 1, 2, 1]), [2, 3, 1, 3])
        self.assertEqual(self.check_lengths([2, 1, 2, 1, 2]), [2, 3, 2, 3, 2])
        for counts in itertools.product((0, 1, 2, 3), repeat=6):
            self.assertEqual(lengths_of(list(counts)), lengths_by_the_words(counts))

    def test_drawn_counts(self):
        dice = random.Random(47)
        for _ in range(400):
            self.check_lengths([dice.choice([0, 1, 1, 2, 3, 5, 8, 40]) for _ in range(dice.randrange(30))])

    def test_no_other_lengths_have_a_lesser_sum(self):
        for counts in itertools.product((1, 2, 3, 5, 9), repeat=4):
            found = lengths_of(list(counts))
            least = min(
                sum(count * length for count, length in zip(counts, lengths))
                for lengths in itertools.product((1, 2, 3, 4), repeat=4)
                if sum(Fraction(1, 2 ** length) for length in lengths) <= 1
            )
            self.assertEqual(sum(count * length for count, length in zip(counts, found)), least)

    def test_full_or_not_by_the_words(self):
        for many in range(6):
            for lengths in itertools.product((-1, 0, 1, 2, 3, 4), repeat=many):
                if full_by_the_words(lengths):
                    self.check_full(lengths)
                else:
                    self.check_not_full(lengths)

    def test_not_full(self):
        for lengths in (
            [2], [0, 2], [1, 1, 1], [1, 1, 0, 1], [1, 2, 2, 2], [1, 2, 3], [2, 2, 2], [-1], [1, 1, -1], [0, 0, -5],
            [-10 ** 30, 1, 1], [1, -1], [10 ** 30], [1, 10 ** 30], [10 ** 30] * 2, [1, 2, 3, 10 ** 9], [5000] * 5000,
            [9999] * 2, list(range(1, 4000)), [1] * 3000, [0] * 50 + [2],
        ):
            self.check_not_full(lengths)

    def test_long_lengths(self):
        lengths = list(range(1, 1200)) + [1199]
        self.check_full(lengths)
        self.check_full(lengths[::-1])
        self.check_not_full(lengths + [1199])
        self.check_full([12] * 4096)
        self.check_not_full([12] * 4095)

    def test_counts_below_0(self):
        for counts in ([-1], [0, -1], [1, 2, -3], [-10 ** 30, 1]):
            passed = list(counts)
            with self.assertRaises(InvalidCounts):
                lengths_of(passed)
            self.assertEqual(passed, counts)

    def test_what_is_returned_is_new(self):
        code = code_of([1, 2, 2, 0, 0])
        code[3].append(1)
        self.assertEqual(code[4], [])
        code.clear()
        self.assertEqual(code_of([1, 2, 2, 0, 0]), [[0], [1, 0], [1, 1], [], []])
        counts = [0, 0]
        lengths_of(counts).append(1)
        self.assertEqual(counts, [0, 0])

    def test_steps(self):
        told = [[1], [0, 1, 0], [0, 1, 1], [0, 0, 1, 0, 0], [0, 0, 1, 0, 1], [0, 0, 1, 1, 0], [0, 0, 1, 1, 1]]
        self.assertEqual([steps_of(number) for number in range(7)], told)
        self.assertEqual(steps_of(7), [0, 0, 0, 1, 0, 0, 0])
        for number in (*range(300), 4999, 5000, 2 ** 13 - 1, 2 ** 13 - 2, 10 ** 30, 2 ** 2000):
            bits = steps_of(number)
            digits = [int(digit) for digit in format(number + 1, "b")]
            self.assertEqual(bits, [0] * (len(digits) - 1) + digits)


if __name__ == "__main__":
    unittest.main()

"""Points 5 and 6, and the interface's heading topiary/bits.py."""

import random
import unittest

from topiary.bits import Bits
from topiary.errors import InvalidPlace, InvalidRow


def some_rows():
    dice = random.Random(5)
    rows = [[], [0], [1], [0, 1], [1, 0], [1, 0, 1, 1, 0]]
    for length in (7, 8, 9, 31, 32, 33, 63, 64, 65, 127, 128, 129, 300, 513):
        rows.append([0] * length)
        rows.append([1] * length)
        rows.append([k & 1 for k in range(length)])
        rows.append([dice.randrange(2) for _ in range(length)])
        rows.append([int(dice.randrange(40) == 0) for _ in range(length)])
        rows.append([int(dice.randrange(40) != 0) for _ in range(length)])
    return rows


class BitsTest(unittest.TestCase):
    def test_example(self):
        bits = Bits([1, 0, 1, 1, 0])
        told = (bits.size, bits.ones, bits.rank(3), bits.rank(3, 0), bits.select(2), bits.select(2, 0))
        self.assertEqual(told, (5, 3, 2, 1, 3, None))
        with self.assertRaises(InvalidPlace) as caught:
            bits.at(5)
        self.assertEqual(caught.exception.place, 5)

    def test_size_ones_and_row(self):
        for row in some_rows():
            bits = Bits(row)
            self.assertEqual((bits.size, bits.ones, bits.row()), (len(row), row.count(1), row))

    def test_at(self):
        for row in some_rows():
            bits = Bits(row)
            self.assertEqual([bits.at(place) for place in range(len(row))], row)

    def test_rank_by_counting(self):
        for row in some_rows():
            bits = Bits(row)
            for i in range(len(row) + 1):
                self.assertEqual(bits.rank(i), row[:i].count(1))
                self.assertEqual(bits.rank(i, 1), row[:i].count(1))
                self.assertEqual(bits.rank(i, 0), row[:i].count(0))

    def test_select_of_each_k_up_to_two_more_than_there_are(self):
        for row in some_rows():
            bits = Bits(row)
            for digit in (0, 1):
                places = [place for place, item in enumerate(row) if item == digit]
                found = [bits.select(k, digit) for k in range(len(places) + 3)]
                self.assertEqual(found, places + [None, None, None])
            self.assertEqual(bits.select(0), bits.select(0, 1))
            self.assertEqual(bits.select(bits.ones), None)

    def test_digit_is_passed_by_name_too(self):
        bits = Bits([0, 1, 0])
        self.assertEqual((bits.rank(i=3, digit=0), bits.select(k=1, digit=0)), (2, 2))

    def test_another_digit_stands_nowhere(self):
        bits = Bits([0, 1, 0])
        for digit in (-1, 2):
            self.assertEqual((bits.rank(3, digit), bits.select(0, digit)), (0, None))

    def test_facts_about_ranks_and_places(self):
        for row in some_rows():
            bits = Bits(row)
            for i in range(len(row) + 1):
                self.assertEqual(bits.rank(i, 0) + bits.rank(i, 1), i)
            for digit in (0, 1):
                for k in range(bits.rank(bits.size, digit)):
                    place = bits.select(k, digit)
                    self.assertEqual(bits.at(place), digit)
                    self.assertEqual(bits.rank(place, digit), k)
                    behind = bits.select(k + 1, digit)
                    last = bits.size if behind is None else behind
                    for i in range(place + 1, last + 1):
                        self.assertEqual(bits.rank(i, digit), k + 1)

    def test_the_list_that_was_passed_may_change(self):
        row = [1, 0, 1]
        bits = Bits(row)
        row[0] = 0
        row.append(1)
        self.assertEqual((bits.size, bits.ones, bits.row()), (3, 2, [1, 0, 1]))
        self.assertEqual((bits.at(0), bits.rank(3), bits.select(0), bits.select(2)), (1, 2, 0, None))

    def test_the_list_that_was_returned_may_change(self):
        bits = Bits([1, 0, 1])
        told = bits.row()
        told[0] = 0
        told.append(1)
        self.assertEqual((bits.row(), bits.at(0), bits.rank(3)), ([1, 0, 1], 1, 2))

    def test_nothing_is_changed_in_the_list_that_is_passed(self):
        for row in some_rows():
            before = list(row)
            Bits(row)
            self.assertEqual(row, before)

    def test_invalid_row_tells_the_first_place(self):
        wrong = [([2], 0), ([-1], 0), ([0, 1, 2, 3], 2), ([1, 0, 0, -1, 2], 3), ([0] * 99 + [10**20, -1], 99)]
        for row, place in wrong:
            with self.assertRaises(InvalidRow) as caught:
                Bits(row)
            self.assertEqual(caught.exception.place, place)

    def test_invalid_place_just_beyond_the_ranges(self):
        for row in some_rows():
            bits = Bits(row)
            size = len(row)
            calls = [(bits.at, -1), (bits.at, size), (bits.rank, -1), (bits.rank, size + 1), (bits.select, -1)]
            for call, number in calls:
                with self.assertRaises(InvalidPlace) as caught:
                    call(number)
                self.assertEqual(caught.exception.place, number)
            for call, number in calls[2:]:
                with self.assertRaises(InvalidPlace) as caught:
                    call(number, 0)
                self.assertEqual(caught.exception.place, number)

    def test_no_error_at_the_ends_of_the_ranges(self):
        for row in some_rows():
            bits = Bits(row)
            self.assertEqual((bits.rank(0), bits.rank(0, 0)), (0, 0))
            self.assertEqual(bits.rank(len(row)) + bits.rank(len(row), 0), len(row))
            if row:
                self.assertEqual((bits.at(0), bits.at(len(row) - 1)), (row[0], row[-1]))

    def test_an_error_changes_nothing(self):
        bits = Bits([1, 0, 1])
        for call, number in [(bits.at, 3), (bits.rank, 4), (bits.select, -1)]:
            with self.assertRaises(InvalidPlace):
                call(number)
        self.assertEqual((bits.row(), bits.size, bits.ones, bits.rank(3), bits.select(1)), ([1, 0, 1], 3, 2, 2, 2))


if __name__ == "__main__":
    unittest.main()

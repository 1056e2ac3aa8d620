"""Points 7 and 8, and the interface's heading topiary/wave.py."""

import random
import unittest

from topiary.errors import InvalidPlace, InvalidRow, InvalidSize, InvalidStretch, InvalidSymbol
from topiary.wave import Wave


def some_rows():
    """Pairs of a row and a size."""
    dice = random.Random(7)
    pairs = [([3, 0, 3, 2, 0, 3], 4)]
    for size in (1, 2, 3, 5, 7, 100, 65536):
        pairs.append(([], size))
        pairs.append(([0], size))
        pairs.append(([size - 1] * 20, size))
        few = [0, size // 2, size - 1]
        pairs.append(([dice.choice(few) for _ in range(60)], size))
        pairs.append(([dice.randrange(size) for _ in range(150)], size))
    return pairs


def some_symbols(row, size):
    """Symbols that stand in the row, and others."""
    return sorted(set(row[:12]) | {0, size // 3, size // 2, size - 1})


class WaveTest(unittest.TestCase):
    def check_error(self, kind, told, call, *arguments):
        with self.assertRaises(kind) as caught:
            call(*arguments)
        self.assertEqual(vars(caught.exception), told)

    def test_example(self):
        wave = Wave([3, 0, 3, 2, 0, 3], 4)
        told = (wave.at(3), wave.rank(3, 5), wave.select(3, 2), wave.following(0, 2), wave.present(1, 5))
        self.assertEqual(told, (2, 2, 5, 4, [(0, 2), (2, 1), (3, 1)]))
        self.check_error(InvalidSymbol, {"symbol": 4}, wave.rank, 4, 0)

    def test_size_length_at_and_row(self):
        for row, size in some_rows():
            wave = Wave(row, size)
            self.assertEqual((wave.size, wave.length, wave.row()), (size, len(row), row))
            self.assertEqual([wave.at(place) for place in range(len(row))], row)

    def test_rank_by_counting(self):
        for row, size in some_rows():
            wave = Wave(row, size)
            for symbol in some_symbols(row, size):
                for i in range(len(row) + 1):
                    self.assertEqual(wave.rank(symbol, i), row[:i].count(symbol))

    def test_select_of_each_k_up_to_two_more_than_there_are(self):
        for row, size in some_rows():
            wave = Wave(row, size)
            for symbol in some_symbols(row, size):
                places = [place for place, item in enumerate(row) if item == symbol]
                found = [wave.select(symbol, k) for k in range(len(places) + 3)]
                self.assertEqual(found, places + [None, None, None])

    def test_following_by_looking(self):
        for row, size in some_rows():
            wave = Wave(row, size)
            for symbol in some_symbols(row, size):
                for i in range(len(row) + 1):
                    place = row.index(symbol, i) if symbol in row[i:] else None
                    self.assertEqual(wave.following(symbol, i), place)

    def test_the_lists_that_were_passed_and_returned_may_change(self):
        row = [2, 0, 2]
        wave = Wave(row, 3)
        row[0] = 1
        row.append(0)
        told = wave.row()
        told[1] = 1
        told.append(2)
        pairs = wave.present(0, 3)
        pairs.append((9, 9))
        self.assertEqual((wave.row(), wave.length, wave.at(0), wave.at(1)), ([2, 0, 2], 3, 2, 0))
        self.assertEqual((wave.rank(2, 3), wave.rank(1, 3), wave.select(0, 1)), (2, 0, None))
        self.assertEqual(wave.present(0, 3), [(0, 1), (2, 2)])

    def test_nothing_is_changed_in_the_list_that_is_passed(self):
        for row, size in some_rows():
            before = list(row)
            Wave(row, size)
            self.assertEqual(row, before)

    def test_sizes(self):
        for size in (1, 2, 65535, 65536):
            self.assertEqual(Wave([size - 1], size).size, size)
        for size in (0, -1, -5, 65537, 10**9):
            for row in ([], [0], [0, -1], [size]):
                self.check_error(InvalidSize, {"size": size}, Wave, row, size)

    def test_invalid_row_tells_the_first_place(self):
        wrong = [([1], 1, 0), ([-1], 1, 0), ([0, 1, 2, 5, -1], 5, 3), ([4, -1, 9], 5, 1)]
        wrong += [([65535, 65536], 65536, 1), ([0] * 50 + [2, 3], 2, 50)]
        for row, size, place in wrong:
            self.check_error(InvalidRow, {"place": place}, Wave, row, size)

    def test_invalid_symbol_comes_ahead_of_invalid_place(self):
        for row, size in some_rows():
            wave = Wave(row, size)
            for symbol in (-1, size, size + 1):
                for number in (-1, 0, len(row) + 1):
                    for call in (wave.rank, wave.select, wave.following):
                        self.check_error(InvalidSymbol, {"symbol": symbol}, call, symbol, number)

    def test_invalid_place_just_beyond_the_ranges(self):
        for row, size in some_rows():
            wave = Wave(row, size)
            many = len(row)
            for place in (-1, many):
                self.check_error(InvalidPlace, {"place": place}, wave.at, place)
            for symbol in some_symbols(row, size):
                for i in (-1, many + 1):
                    self.check_error(InvalidPlace, {"place": i}, wave.rank, symbol, i)
                    self.check_error(InvalidPlace, {"place": i}, wave.following, symbol, i)
                self.check_error(InvalidPlace, {"place": -1}, wave.select, symbol, -1)

    def test_present_in_the_whole_row(self):
        for row, size in some_rows():
            pairs = [(symbol, row.count(symbol)) for symbol in sorted(set(row))]
            self.assertEqual(Wave(row, size).present(0, len(row)), pairs)

    def test_present_in_each_stretch_of_small_rows(self):
        for row, size in [([3, 0, 3, 2, 0, 3], 4), ([0] * 5, 1), ([], 2), ([65535, 0, 9, 9, 65535, 1, 0], 65536)]:
            wave = Wave(row, size)
            for first in range(len(row) + 1):
                for behind in range(first, len(row) + 1):
                    part = row[first:behind]
                    pairs = [(symbol, part.count(symbol)) for symbol in sorted(set(part))]
                    self.assertEqual(wave.present(first, behind), pairs)

    def test_present_in_empty_stretches(self):
        for row, size in some_rows():
            wave = Wave(row, size)
            for place in (0, len(row) // 2, len(row)):
                self.assertEqual(wave.present(place, place), [])

    def test_invalid_stretch_tells_both_numbers(self):
        for row, size in some_rows():
            wave = Wave(row, size)
            many = len(row)
            wrong = [(-1, 0), (-1, many), (-2, -1), (1, 0), (many, many - 1), (0, many + 1), (many + 1, many + 1)]
            for first, behind in wrong:
                told = {"first": first, "behind": behind}
                self.check_error(InvalidStretch, told, wave.present, first, behind)

    def test_an_error_changes_nothing(self):
        wave = Wave([2, 0, 2], 3)
        self.check_error(InvalidPlace, {"place": 3}, wave.at, 3)
        self.check_error(InvalidSymbol, {"symbol": 3}, wave.rank, 3, 0)
        self.check_error(InvalidPlace, {"place": -1}, wave.select, 1, -1)
        self.check_error(InvalidStretch, {"first": 2, "behind": 1}, wave.present, 2, 1)
        self.assertEqual((wave.row(), wave.size, wave.length), ([2, 0, 2], 3, 3))
        self.assertEqual((wave.rank(2, 3), wave.select(1, 0), wave.present(1, 3)), (2, None, [(0, 1), (2, 1)]))


if __name__ == "__main__":
    unittest.main()

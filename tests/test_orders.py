"""Points 9 and 10, and the interface's heading topiary/orders.py."""

import random
import unittest

from topiary.orders import common, order, steps


def order_by_sorting(row):
    return sorted(range(len(row) + 1), key=lambda place: row[place:])


def common_by_looking(row, first, second):
    many = 0
    for one, other in zip(row[first:], row[second:]):
        if one != other:
            break
        many += 1
    return many


def small_rows():
    rows = [[], [0], [7], [0, 0], [1, 0], [0, 1], [2, 1, 2, 1], [3, 3, 3, 3]]
    return rows + [[0, 1, 0, 1, 0, 1, 0], [10**30, 0, 10**30]]


def some_rows():
    dice = random.Random(9)
    rows = small_rows()
    for length in (5, 16, 33, 100):
        rows.append([4] * length)
        rows.append([1, 2, 1] * length)
        rows.append([5, 0, 5, 5] * length + [5])
        rows.append([0] * length + [1] + [0] * length)
        rows.append(list(range(length)))
        rows.append(list(range(length, 0, -1)))
        rows.append([dice.randrange(2) for _ in range(length)])
        rows.append([dice.randrange(10**25) for _ in range(length)])
        rows.append([dice.choice([0, 1, 10**18, 10**18 + 1]) for _ in range(length)])
    return rows


class OrdersTest(unittest.TestCase):
    def test_examples(self):
        self.assertEqual(order([2, 1, 2, 1]), [4, 3, 1, 2, 0])
        self.assertEqual(steps([2, 1, 2, 1], order([2, 1, 2, 1])), [0, 1, 0, 2])
        self.assertEqual(common([2, 1, 2, 1], 0, 2), 2)

    def test_order_against_sorting_the_suffixes(self):
        for row in some_rows():
            self.assertEqual(order(row), order_by_sorting(row))

    def test_order_of_every_row_of_few_items(self):
        for length in range(7):
            for number in range(3 ** length):
                row = [number // 3 ** k % 3 for k in range(length)]
                self.assertEqual(order(row), order_by_sorting(row))

    def test_the_length_comes_first(self):
        for row in some_rows():
            self.assertEqual(order(row)[0], len(row))

    def test_order_has_each_place_once(self):
        for row in some_rows():
            self.assertEqual(sorted(order(row)), list(range(len(row) + 1)))

    def test_long_rows(self):
        for row in ([3] * 3000, [1, 2] * 1500, [k * k % 101 for k in range(3000)]):
            self.assertEqual(order(row), order_by_sorting(row))

    def test_steps_item_by_item(self):
        for row in some_rows():
            places = order(row)
            found = steps(row, places)
            self.assertEqual(len(found), len(places) - 1)
            for k, length in enumerate(found):
                self.assertEqual(length, common_by_looking(row, places[k], places[k + 1]))

    def test_common_of_each_two_places(self):
        for row in small_rows() + [[0, 0, 1, 0, 0, 1, 0], [5, 5, 5, 6, 5, 5]]:
            for first in range(len(row) + 1):
                for second in range(len(row) + 1):
                    self.assertEqual(common(row, first, second), common_by_looking(row, first, second))
                self.assertEqual(common(row, first, first), len(row) - first)
                self.assertEqual(common(row, first, len(row)), 0)

    def test_common_raises_nothing_beyond_the_places(self):
        for row in small_rows():
            for beyond in (-len(row) - 2, -1, len(row) + 1, len(row) + 5):
                self.assertEqual(common(row, beyond, 0), 0)
                self.assertEqual(common(row, 0, beyond), 0)
                self.assertEqual(common(row, beyond, beyond), 0)

    def test_common_is_the_least_of_the_steps_between(self):
        for row in small_rows() + [[0, 0, 1, 0, 0, 1, 0], [5, 5, 5, 6, 5, 5]]:
            places = order(row)
            between = steps(row, places)
            for high in range(len(places)):
                for low in range(high):
                    least = min(between[low:high])
                    self.assertEqual(common(row, places[low], places[high]), least)

    def test_arguments_stay_as_they_were_and_lists_are_new(self):
        for row in some_rows():
            before = list(row)
            places = order(row)
            kept = list(places)
            found = steps(row, places)
            common(row, 0, len(row))
            self.assertEqual((row, places), (before, kept))
            found.append(9)
            places.append(9)
            self.assertEqual((order(row), steps(row, kept)), (kept, found[:-1]))


if __name__ == "__main__":
    unittest.main()

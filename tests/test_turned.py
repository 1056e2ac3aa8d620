"""Points 11 to 13, and the interface's heading topiary/turned.py."""

import itertools
import random
import unittest

from topiary.errors import NotTurned
from topiary.turned import fault, next_place, recover, turn


def turn_by_sorting(row):
    places = sorted(range(len(row) + 1), key=lambda place: row[place:])
    return [row[place - 1] if place else -1 for place in places]


def next_by_counting(items, place):
    item = items[place]
    return sum(other < item for other in items) + sum(other == item for other in items[:place])


def fault_by_the_words(items):
    """The fault as point 13 tells it."""
    for k, item in enumerate(items):
        if item < -1 or (item == -1 and -1 in items[:k]):
            return ("items", k)
    if -1 not in items:
        return ("items", len(items))
    seen = [0]
    while (place := next_by_counting(items, seen[-1])) not in seen:
        seen.append(place)
    return None if len(seen) == len(items) else ("walk", len(seen))


def some_rows():
    dice = random.Random(11)
    rows = [[], [0], [9], [0, 0], [2, 1, 2, 1], [4] * 40, [1, 2, 1] * 20, list(range(30)), list(range(30, 0, -1))]
    for length in (3, 20, 80):
        rows.append([dice.randrange(2) for _ in range(length)])
        rows.append([dice.randrange(10**22) for _ in range(length)])
    return rows


class TurnedTest(unittest.TestCase):
    def test_examples(self):
        self.assertEqual(turn([2, 1, 2, 1]), [1, 2, 2, 1, -1])
        self.assertEqual(recover([1, 2, 2, 1, -1]), [2, 1, 2, 1])
        self.assertEqual((fault([-1, 1]), fault([1, 3])), (("walk", 1), ("items", 2)))
        with self.assertRaises(NotTurned):
            recover([-1, 1])

    def test_turn(self):
        self.assertEqual(turn([]), [-1])
        for row in some_rows():
            items = turn(row)
            self.assertEqual(items, turn_by_sorting(row))
            self.assertEqual((len(items), items.count(-1)), (len(row) + 1, 1))

    def test_next_place_by_counting(self):
        lists = [turn(row) for row in some_rows()]
        lists += [[0], [5, 5, 5], [-1, 1], [1, 3], [-1, -1, -3, 2, 2, -3], [10**20, 0, 10**20, -1]]
        for items in lists:
            found = [next_place(items, place) for place in range(len(items))]
            self.assertEqual(found, [next_by_counting(items, place) for place in range(len(items))])
            self.assertEqual(sorted(found), list(range(len(items))))

    def test_recover_gives_the_row_back(self):
        for row in some_rows():
            self.assertEqual(recover(turn(row)), row)
            self.assertIsNone(fault(turn(row)))

    def test_long_rows(self):
        for row in ([3] * 3000, [k * k % 101 for k in range(3000)]):
            self.assertEqual(recover(turn(row)), row)

    def test_faults_of_items(self):
        wrong = [
            ([], 0), ([0], 1), ([5, 5, 5], 3), ([1, 3], 2),
            ([-2], 0), ([0, -1, -2], 2), ([-2, -1], 0), ([0, 1, -9], 2), ([-1, 0, -(10**20)], 2),
            ([-1, -1], 1), ([0, -1, 2, -1, -1], 3), ([-1, 3, -1, -2], 2), ([-1, 3, -2, -1], 2),
        ]
        for items, place in wrong:
            self.assertEqual(fault(items), ("items", place))

    def test_faults_of_items_come_ahead_of_those_of_the_walk(self):
        self.assertEqual(fault([-1, 1, 1]), ("walk", 1))
        self.assertEqual(fault([-1, 1, -1]), ("items", 2))
        self.assertEqual(fault([-1, 1, -2]), ("items", 2))

    def test_faults_of_walks(self):
        wrong = [([-1, 1], 1), ([-1, 0], 1), ([-1, 0, 0], 1), ([0, -1, 2], 2), ([7, 9, -1, 9, 11], 3)]
        for items, many in wrong:
            self.assertEqual(fault(items), ("walk", many))

    def test_fault_of_every_short_list(self):
        for length in range(6):
            for items in itertools.product([-2, -1, 0, 1, 2], repeat=length):
                items = list(items)
                told = fault(items)
                self.assertEqual(told, fault_by_the_words(items))
                if told is None:
                    self.assertEqual(turn_by_sorting(recover(items)), items)

    def test_turned_rows_are_just_those_of_all_rows(self):
        rows = [list(row) for length in range(5) for row in itertools.product([0, 1, 2], repeat=length)]
        turned = {tuple(turn(row)) for row in rows}
        self.assertEqual(len(turned), len(rows))
        for length in range(1, 6):
            for items in itertools.product([-1, 0, 1, 2], repeat=length):
                self.assertEqual(fault(list(items)) is None, items in turned)

    def test_not_turned_has_the_parts_of_the_fault(self):
        for items in ([], [1, 3], [-2], [0, -1, -1], [-1, 1], [7, 9, -1, 9, 11]):
            with self.assertRaises(NotTurned) as caught:
                recover(items)
            self.assertEqual((caught.exception.reason, caught.exception.number), fault(items))

    def test_arguments_stay_as_they_were_and_lists_are_new(self):
        for row in some_rows():
            before = list(row)
            items = turn(row)
            kept = list(items)
            self.assertEqual(row, before)
            fault(items)
            next_place(items, 0)
            back = recover(items)
            self.assertEqual(items, kept)
            back.append(1)
            items.append(1)
            self.assertEqual((turn(row), recover(kept)), (kept, before))


if __name__ == "__main__":
    unittest.main()

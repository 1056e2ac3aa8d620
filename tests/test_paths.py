"""Point 28, and the interface's heading topiary/paths.py."""

import itertools
import unittest

from topiary.errors import InvalidPlace
from topiary.moves import Kept, name, parent
from topiary.paths import rows_at, rows_under, upward
from topiary.rows import rows_of
from trees import bushy, chain, some_documents, wide

TREE = ("a", [("b", ["x"]), "y", ("b", []), ("a", ["z"])])


def documents():
    return some_documents() + [
        ("a", [("ab", [("abc", ["x"])]), ("b", [("ab", ["y"])]), ("abc", [("a", ["z"])])]),
        ("a", [("a", [("a", ["x", ("b", ["w"])]), ("b", ["y"])]), ("b", [("a", ["z"]), ("b", [])])]),
        ("z", [("y", ["m"]), "n", ("x", ["o", ("z", ["p"]), "q"]), "r"]),
    ]


def names_above(kept, row):
    """The names of the nodes above, from the root to the parent."""
    above = parent(kept, row)
    return [] if above is None else names_above(kept, above) + [name(kept, above)]


def ends_with(names, last):
    return len(names) >= len(last) and names[len(names) - len(last):] == last


class PathsTest(unittest.TestCase):
    def check_under(self, kept, names):
        rows = [row for row in range(kept.size) if ends_with(names_above(kept, row), names)]
        first, behind = rows_under(kept, names)
        self.assertEqual((first, behind), (rows[0], rows[-1] + 1) if rows else (0, 0))
        self.assertEqual(list(range(first, behind)), rows)

    def check_at(self, kept, names):
        rows = [row for row in range(kept.size) if names_above(kept, row) + [name(kept, row)] == names]
        self.assertEqual(rows_at(kept, names), rows)

    def test_example(self):
        kept = Kept(rows_of(TREE))
        told = [rows_under(kept, names) for names in (["a"], ["a", "a"], ["b", "a"], [])]
        self.assertEqual(told, [(1, 6), (5, 6), (0, 0), (0, 7)])
        self.assertEqual((rows_at(kept, ["a", "b"]), upward(kept, 5)), ([1, 3], ["a", "a"]))

    def test_no_names(self):
        for tree in documents() + [wide(5000)]:
            kept = Kept(rows_of(tree))
            self.assertEqual(rows_under(kept, []), (0, kept.size))
            self.assertEqual(rows_at(kept, []), [])

    def test_names_above_nodes_in_part_and_in_whole(self):
        for tree in documents():
            kept = Kept(rows_of(tree))
            known = {tuple(names_above(kept, row)) for row in range(kept.size)}
            if len(known) > 20:
                known = {names for names in known if len(names) in (1, 2, 3, 30, 58, 59)}
            for names in sorted(known):
                for start in {0, 1, len(names) // 2, len(names) - 1} & set(range(len(names))):
                    self.check_under(kept, list(names[start:]))
                    self.check_at(kept, list(names[start:]))
                self.check_at(kept, list(names) + ["b"])

    def test_all_short_lists_of_names(self):
        for tree in documents()[:6] + documents()[-3:]:
            kept = Kept(rows_of(tree))
            words = sorted({name(kept, row) for row in range(kept.size)} - {None})
            for many in range(1, 4):
                for names in itertools.product(words, repeat=many):
                    self.check_under(kept, list(names))
                    self.check_at(kept, list(names))

    def test_names_that_the_document_does_not_have(self):
        for tree in documents():
            kept = Kept(rows_of(tree))
            root = name(kept, 0)
            for word in ("q", "aa", "", "#", "A", "zzzzzzzzzzzzz"):
                for names in ([word], [root, word], [word, root], [root, word, root], [word] * 100):
                    self.assertEqual(rows_under(kept, names), (0, 0))
                    self.assertEqual(rows_at(kept, names), [])

    def test_nothing_under_the_names(self):
        kept = Kept(rows_of(("a", [("b", []), ("c", ["x"]), ("c", [("b", [])])])))
        for names in (["b"], ["a", "b"], ["c", "b"], ["c", "c"], ["a", "a"], ["c", "a"], ["a", "c", "a"]):
            self.assertEqual(rows_under(kept, names), (0, 0))
        self.assertEqual(rows_under(Kept(rows_of(("a", []))), ["a"]), (0, 0))
        self.assertEqual(rows_at(Kept(rows_of(("a", []))), ["a"]), [0])

    def test_names_have_to_begin_at_the_root(self):
        kept = Kept(rows_of(("a", [("b", [("c", ["x"]), ("a", [("b", [])])]), ("c", [])])))
        self.assertEqual(rows_at(kept, ["b"]), [])
        self.assertEqual(rows_at(kept, ["b", "c"]), [])
        self.assertEqual([name(kept, row) for row in rows_at(kept, ["a", "b", "c"])], ["c"])
        for names in (["a"], ["a", "b"], ["a", "b", "a", "b"], ["b", "a"], ["a", "c"]):
            self.check_at(kept, names)
        self.assertEqual([len(rows_at(kept, ["a", "b"])), len(rows_at(kept, ["a", "b", "a", "b"]))], [1, 1])

    def test_a_chain_of_the_greatest_depth(self):
        kept = Kept(rows_of(chain(60)))
        for many in range(62):
            self.assertEqual(rows_under(kept, ["a"] * many), (many, 60) if many < 60 else (0, 0))
            self.assertEqual(rows_at(kept, ["a"] * many + ["a"]), [many] if many < 59 else [])
        self.assertEqual(rows_at(kept, ["a"] * 59 + ["z"]), [59])

    def test_upward(self):
        for tree in documents():
            kept = Kept(rows_of(tree))
            for row in range(kept.size):
                self.assertEqual(upward(kept, row), names_above(kept, row)[::-1])
        large = Kept(rows_of(bushy(5000)))
        for row in (0, 1, 2500, 4999):
            self.assertEqual(upward(large, row), names_above(large, row)[::-1])

    def test_invalid_place(self):
        for tree in (TREE, ("a", [])):
            kept = Kept(rows_of(tree))
            for row in (-1, kept.size, 10 ** 9):
                with self.assertRaises(InvalidPlace) as caught:
                    upward(kept, row)
                self.assertEqual(caught.exception.place, row)
            upward(kept, kept.size - 1)

    def test_arguments_stay_and_lists_are_new(self):
        kept = Kept(rows_of(TREE))
        names = ["a", "b"]
        rows_at(kept, names).append(7)
        rows_under(kept, names)
        upward(kept, 5).append("q")
        self.assertEqual(names, ["a", "b"])
        self.assertEqual((rows_at(kept, names), upward(kept, 5)), ([1, 3], ["a", "a"]))


if __name__ == "__main__":
    unittest.main()

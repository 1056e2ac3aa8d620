"""Points 26 and 27, and the interface's heading topiary/moves.py."""

import copy
import unittest

from topiary.errors import InvalidPlace, InvalidRows
from topiary.moves import (
    Kept, child, depth, family, name, node_of, parent, place, row_of, subtree, text, weight,
)
from topiary.rows import Rows, rows_of, same_rows
from trees import bushy, laid_out, some_documents, wide

TREE = ("a", [("b", ["x"]), "y", ("b", []), ("a", ["z"])])
MOVES = (name, text, family, parent, place, depth, weight, node_of, row_of, subtree)
PARTS = ("names", "labels", "lasts", "fulls", "texts")


def numbers_in_rows(nodes):
    """The numbers of the nodes in rows, by sorting them by the names above them."""
    paths = [[]]
    for _, above, _ in nodes[1:]:
        paths.append([nodes[above][0][0]] + paths[above])
    return [number for _, number in sorted((path, number) for number, path in enumerate(paths))]


def weights_of(nodes):
    """The weight of each node, by counting it for all nodes above it, too."""
    weights = [0] * len(nodes)
    for number in range(len(nodes)):
        while number is not None:
            weights[number] += 1
            number = nodes[number][1]
    return weights


def documents():
    return some_documents() + [
        ("a", [("ab", [("abc", ["x"])]), ("b", [("ab", ["y"])]), ("abc", [("a", ["z"])])]),
        ("a", [("a", [("a", ["x", ("a", [])]), ("a", ["y"])]), ("a", [("a", ["z"])])]),
        ("z", [("y", ["m"]), "n", ("x", ["o", ("z", ["p"]), "q"]), "r"]),
        ("m", [("z", ["x"]), ("a", [("m", ["y"])]), ("zz", [("aa", [])]), ("z", [])]),
    ]


class MovesTest(unittest.TestCase):
    def check_rows(self, tree, some=None):
        """Compare the moves at all rows, or at some of them, with the tree."""
        nodes = laid_out(tree)
        numbers = numbers_in_rows(nodes)
        weights = weights_of(nodes)
        row_at = {number: row for row, number in enumerate(numbers)}
        kept = Kept(rows_of(tree))
        self.assertEqual(kept.size, len(nodes))
        for row in range(len(nodes)) if some is None else some:
            node, above, deep = nodes[numbers[row]]
            is_text = isinstance(node, str)
            self.assertEqual(name(kept, row), None if is_text else node[0])
            self.assertEqual(text(kept, row), node if is_text else None)
            self.assertEqual(depth(kept, row), deep)
            self.assertEqual(weight(kept, row), weights[numbers[row]])
            self.assertEqual((node_of(kept, row), row_of(kept, numbers[row])), (numbers[row], row))
            self.assertEqual(subtree(kept, row), node)
            self.check_family(kept, row, [row_at[k] for k, item in enumerate(nodes) if item[1] == numbers[row]])
            if above is None:
                self.assertEqual((row, parent(kept, row), place(kept, row)), (0, None, 0))
            else:
                self.assertEqual(parent(kept, row), row_at[above])
                siblings = [k for k, item in enumerate(nodes) if item[1] == above]
                self.assertEqual(place(kept, row), siblings.index(numbers[row]))

    def check_family(self, kept, row, children):
        self.assertEqual(family(kept, row), (children[0], children[-1] + 1) if children else None)
        for k in range(len(children)):
            self.assertEqual(child(kept, row, k), children[k])
        for k in (-1, -2, -len(children), len(children), len(children) + 1, 10 ** 9):
            if k != 0 or not children:
                self.assertIsNone(child(kept, row, k))

    def test_example(self):
        kept = Kept(rows_of(TREE))
        told = (family(kept, 0), family(kept, 1), child(kept, 0, 3), parent(kept, 6), weight(kept, 4))
        self.assertEqual(told, ((1, 5), (6, 7), 4, 1, 2))
        self.assertEqual([node_of(kept, row) for row in range(7)], [0, 1, 3, 4, 5, 6, 2])
        self.assertEqual((row_of(kept, 2), subtree(kept, 4)), (6, ("a", ["z"])))

    def test_each_row_of_several_documents(self):
        for tree in documents():
            self.check_rows(tree)

    def test_some_rows_of_large_documents(self):
        for tree in (wide(5000), bushy(5000)):
            self.check_rows(tree, [0, 1, 2, 17, 1234, 2500, 4998, 4999])

    def test_a_document_of_one_node(self):
        kept = Kept(rows_of(("only", [])))
        self.assertEqual((kept.size, name(kept, 0), text(kept, 0), family(kept, 0)), (1, "only", None, None))
        self.assertEqual((parent(kept, 0), place(kept, 0), depth(kept, 0), weight(kept, 0)), (None, 0, 1, 1))
        self.assertEqual((node_of(kept, 0), row_of(kept, 0), subtree(kept, 0)), (0, 0, ("only", [])))
        self.assertEqual((child(kept, 0, 0), child(kept, 0, -1)), (None, None))

    def test_nodes_and_rows_are_opposites(self):
        for tree in documents() + [bushy(5000)]:
            kept = Kept(rows_of(tree))
            self.assertEqual([row_of(kept, node_of(kept, row)) for row in range(kept.size)], list(range(kept.size)))
            self.assertEqual([node_of(kept, row_of(kept, node)) for node in range(kept.size)], list(range(kept.size)))

    def test_the_node_of_a_row_is_told_by_weights(self):
        for tree in documents():
            kept = Kept(rows_of(tree))
            for row in range(kept.size):
                ahead = 0
                at = row
                while parent(kept, at) is not None:
                    first = at - place(kept, at)
                    ahead += 1 + sum(weight(kept, sibling) for sibling in range(first, at))
                    at = parent(kept, at)
                self.assertEqual(node_of(kept, row), ahead)

    def test_subtrees_are_new(self):
        kept = Kept(rows_of(TREE))
        tree = subtree(kept, 0)
        self.assertEqual(tree, TREE)
        tree[1][0][1].append("w")
        tree[1].append(("c", []))
        subtree(kept, 4)[1].append("w")
        self.assertEqual((subtree(kept, 0), subtree(kept, 4)), (TREE, ("a", ["z"])))
        self.assertIsNot(subtree(kept, 1)[1], subtree(kept, 1)[1])

    def test_rows_are_copied(self):
        rows = rows_of(TREE)
        kept = Kept(rows)
        for part in PARTS:
            getattr(rows, part).append(1)
        self.assertTrue(same_rows(kept.rows(), rows_of(TREE)))
        told = kept.rows()
        self.assertIsInstance(told, Rows)
        for part in PARTS:
            getattr(told, part).clear()
        self.assertTrue(same_rows(kept.rows(), rows_of(TREE)))
        self.assertEqual(subtree(kept, 0), TREE)
        for tree in documents():
            self.assertTrue(same_rows(Kept(rows_of(tree)).rows(), rows_of(tree)))

    def test_invalid_place(self):
        for tree in (TREE, ("a", []), wide(5000)):
            kept = Kept(rows_of(tree))
            for number in (-1, kept.size, kept.size + 1, -kept.size, 10 ** 20):
                for move in MOVES:
                    with self.assertRaises(InvalidPlace) as caught:
                        move(kept, number)
                    self.assertEqual(caught.exception.place, number)
                for k in (0, -1, 9):
                    with self.assertRaises(InvalidPlace) as caught:
                        child(kept, number, k)
                    self.assertEqual(caught.exception.place, number)
            for number in (0, kept.size - 1):
                for move in MOVES:
                    move(kept, number)
                child(kept, number, 0)

    def test_invalid_rows(self):
        wrong = [
            (Rows([], [], [], [], []), 0, "lengths"), (Rows(["a"], [1, 2], [1, 1], [1, 0], []), 1, "label"),
            (Rows(["a"], [1, 1], [1, 2], [1, 0], []), 1, "last"), (Rows(["a"], [1, 1], [1, 1], [1, 2], []), 1, "full"),
            (Rows(["a"], [1], [0], [0], []), 0, "root"), (Rows(["a"], [1, 1], [1, 1], [0, 0], []), 0, "families"),
            (Rows(["a"], [1, 1], [1, 1], [0, 1], []), 1, "reach"), (Rows(["a", "b"], [1], [1], [0], []), 0, "names"),
            (Rows(["a"], [1, 0], [1, 1], [1, 0], []), 0, "texts"),
            (Rows(["a"], [1, 0], [1, 1], [1, 0], ["\t"]), 1, "text"),
            (Rows(["a"], [1, 0, 0], [1, 0, 1], [1, 0, 0], ["x", "y"]), 2, "beside"),
            (Rows(["a"], [1] * 61, [1] * 61, [1] * 60 + [0], []), 0, "large"),
        ]
        for rows, row, reason in wrong:
            before = copy.deepcopy([getattr(rows, part) for part in PARTS])
            with self.assertRaises(InvalidRows) as caught:
                Kept(rows)
            self.assertEqual((caught.exception.row, caught.exception.reason), (row, reason))
            self.assertEqual([getattr(rows, part) for part in PARTS], before)


if __name__ == "__main__":
    unittest.main()

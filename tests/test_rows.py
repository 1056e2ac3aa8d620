"""Points 20 to 23, and the interface's heading topiary/rows.py."""

import copy
import itertools
import unittest

from topiary.errors import InvalidDocument, InvalidRows
from topiary.rows import Rows, rows_of, same_rows, tree_of
from trees import bushy, chain, laid_out, path_by_the_words, small_trees, some_documents, wide

PARTS = ("names", "labels", "lasts", "fulls", "texts")
TREE = ("a", [("b", ["x"]), "y", ("b", []), ("a", ["z"])])


def parts_of(rows):
    return tuple(getattr(rows, part) for part in PARTS)


def parts_by_sorting(tree):
    """The five lists, by sorting the nodes by their upward paths."""
    nodes = laid_out(tree)
    names = sorted({node[0] for node, _, _ in nodes if not isinstance(node, str)})
    paths = [[]]
    for _, parent, _ in nodes[1:]:
        paths.append([1 + names.index(nodes[parent][0][0])] + paths[parent])
    labels, lasts, fulls, texts = [], [], [], []
    for _, number in sorted((path, number) for number, path in enumerate(paths)):
        node, parent, _ = nodes[number]
        is_last = parent is None or nodes[parent][0][1][-1] is node
        labels.append(0 if isinstance(node, str) else 1 + names.index(node[0]))
        lasts.append(int(is_last and (parent is None or not any(row[1] == parent for row in nodes[number + 1:]))))
        fulls.append(int(not isinstance(node, str) and node[1] != []))
        texts.extend([node] if isinstance(node, str) else [])
    return names, labels, lasts, fulls, texts


def more_documents():
    return some_documents() + [
        ("a", [("ab", [("abc", ["x"])]), ("b", [("ab", ["y"])]), ("abc", [("a", ["z"])])]),
        ("abc", [("ab", [("a", [("ab", ["t"]), ("abc", [])])]), ("a", [("abc", ["u", ("a", ["v"])])])]),
        ("a", [("a", [("a", ["x", ("a", [])]), ("a", ["y"])]), ("a", [("a", ["z"])])]),
        ("z", [("y", ["m"]), "n", ("x", ["o", ("z", ["p"]), "q"]), "r"]),
        ("zzzzzzzzzzzz", [("zzzzzzzzzzz", ["a" * 200]), ("a", ["\n"])]),
        ("a", [("b", []), ("b", [("b", []), ("b", [])]), ("b", [])]), bushy(300),
    ]


class RowsTest(unittest.TestCase):
    def test_the_five_lists_are_copied(self):
        lists = [["a"], [1, 0], [1, 1], [1, 0], ["x"]]
        before = copy.deepcopy(lists)
        rows = Rows(*lists)
        self.assertEqual(parts_of(rows), tuple(before))
        for part in lists:
            part.append(7)
        self.assertEqual(parts_of(rows), tuple(before))
        for part in PARTS:
            getattr(rows, part).append(8)
        self.assertEqual(lists, [part + [7] for part in before])

    def test_nothing_is_checked(self):
        for lists in ([[], [], [], [], []], [["B", "a"], [7, -1], [2], [], ["", "x" * 300]], [[], [1], [1], [0], []]):
            self.assertEqual(parts_of(Rows(*lists)), tuple(lists))

    def test_same_rows(self):
        lists = [["a", "b"], [1, 2, 0], [1, 0, 1], [1, 0, 0], ["x"]]
        self.assertIs(same_rows(Rows(*lists), Rows(*copy.deepcopy(lists))), True)
        for k in range(5):
            for change in (lambda part: part[:-1], lambda part: part + part[:1], lambda part: part[:-1] + [5]):
                others = lists[:k] + [change(lists[k])] + lists[k + 1:]
                self.assertIs(same_rows(Rows(*lists), Rows(*others)), False)
                self.assertIs(same_rows(Rows(*others), Rows(*lists)), False)
                self.assertIs(same_rows(Rows(*others), Rows(*others)), True)
        self.assertIs(same_rows(Rows([], [], [], [], []), Rows([], [], [], [], [])), True)


class RowsOfTest(unittest.TestCase):
    def test_example(self):
        rows = rows_of(TREE)
        told = (["a", "b"], [1, 2, 0, 2, 1, 0, 0], [1, 0, 0, 0, 1, 1, 1], [1, 1, 0, 0, 1, 0, 0], ["y", "z", "x"])
        self.assertEqual(parts_of(rows), told)
        self.assertEqual(tree_of(rows), TREE)

    def test_a_document_of_one_node(self):
        self.assertEqual(parts_of(rows_of(("q", []))), (["q"], [1], [1], [0], []))

    def test_a_chain(self):
        many = [1] * 59
        self.assertEqual(parts_of(rows_of(chain(60))), (["a", "z"], many + [2], many + [1], many + [0], []))
        self.assertEqual(parts_of(rows_of(chain(60, "x"))), (["a"], many + [0], many + [1], many + [0], ["x"]))

    def test_names_of_which_one_begins_another_one(self):
        rows = rows_of(("b", [("ab", ["x"]), ("abc", ["y"]), ("a", ["z"]), ("abb", ["w"])]))
        self.assertEqual(rows.names, ["a", "ab", "abb", "abc", "b"])
        self.assertEqual((rows.labels, rows.texts), ([5, 0, 0, 0, 0, 2, 4, 1, 3], ["z", "x", "w", "y"]))

    def test_against_sorting(self):
        for tree in more_documents():
            self.assertEqual(parts_of(rows_of(tree)), parts_by_sorting(tree))

    def test_the_paths_are_those_of_plain(self):
        for tree in some_documents()[:6]:
            nodes = laid_out(tree)
            paths = sorted((path_by_the_words(tree, number), number) for number in range(len(nodes)))
            fulls = [int(not isinstance(nodes[number][0], str) and nodes[number][0][1] != []) for _, number in paths]
            self.assertEqual(rows_of(tree).fulls, fulls)

    def test_large_documents(self):
        for tree in (wide(5000), bushy(5000)):
            rows = rows_of(tree)
            self.assertEqual(parts_of(rows), parts_by_sorting(tree))
            self.assertEqual(tree_of(rows), tree)

    def test_invalid_documents(self):
        wrong = [
            "", "x", ("", []), ("A", []), ("abcdefghijklm", []), ("a", [("b1", [])]), ("a", [""]), ("a", ["x" * 201]),
            ("a", ["\t"]), ("a", [("b", ["\x7f"])]), ("a", ["x", "y"]), ("a", [("b", [("c", []), "x", "y"])]),
            wide(5001), chain(61), chain(61, "x"),
        ]
        for tree in wrong:
            before = copy.deepcopy(tree)
            with self.assertRaises(InvalidDocument):
                rows_of(tree)
            self.assertEqual(tree, before)

    def test_at_the_limits(self):
        for tree in (wide(5000), chain(60), chain(60, "x" * 200), ("abcdefghijkl", [])):
            self.assertEqual(tree_of(rows_of(tree)), tree)

    def test_the_tree_stays_as_it_was_and_the_lists_are_new(self):
        for tree in more_documents():
            before = copy.deepcopy(tree)
            rows = rows_of(tree)
            self.assertEqual(tree, before)
            for part in PARTS:
                getattr(rows, part).append("y")
            self.assertEqual(parts_of(rows_of(tree)), parts_by_sorting(tree))


class TreeOfTest(unittest.TestCase):
    def test_documents_are_given_back(self):
        for tree in more_documents():
            self.assertEqual(tree_of(rows_of(tree)), tree)

    def test_documents_that_differ_have_different_rows(self):
        trees = [
            TREE, ("a", TREE[1] + [("b", [])]), ("a", TREE[1][:-1]), ("b", TREE[1]), ("a", TREE[1][::-1]),
            ("a", [("b", ["w"])] + TREE[1][1:]), ("a", [("b", ["y"]), "x"] + TREE[1][2:]),
            ("a", [("b", []), "y", ("b", ["x"]), ("a", ["z"])]), ("a", [("b", ["x"]), "y", ("b", [("a", ["z"])])]),
            ("a", [("c", ["x"])] + TREE[1][1:]), ("a", [("b", [("b", [])])] + TREE[1][1:]),
        ]
        for one, other in itertools.combinations(trees, 2):
            self.assertFalse(same_rows(rows_of(one), rows_of(other)))

    def test_all_small_documents_have_different_rows(self):
        found = {}
        for many in range(1, 5):
            for tree in small_trees(many, ["a", "b"], "x"):
                rows = rows_of(tree)
                self.assertEqual(found.setdefault(repr(parts_of(rows)), tree), tree)
                self.assertEqual(tree_of(rows), tree)
        self.assertEqual(len(found), 2 + 6 + 28 + 172)

    def test_families_stand_one_behind_the_other(self):
        for tree in more_documents():
            rows = rows_of(tree)
            nodes = laid_out(tree)
            paths = sorted((path_by_the_words(tree, number), number) for number in range(len(nodes)))
            numbers = [number for _, number in paths]
            row_of = {number: row for row, number in enumerate(numbers)}
            owners = sorted((rows.labels[row], row) for row in range(len(numbers)) if rows.fulls[row])
            expected = [0]
            for _, row in owners:
                expected += [row_of[k] for k, item in enumerate(nodes) if item[1] == numbers[row]]
            self.assertEqual(expected, list(range(len(numbers))))

    def test_wrong_rows_are_refused(self):
        wrong = [
            (Rows([], [], [], [], []), 0, "lengths"), (Rows(["a"], [2], [1], [0], []), 0, "label"),
            (Rows(["a"], [1, 1], [1, 2], [1, 0], []), 1, "last"),
            (Rows(["a"], [1, 0], [1, 1], [1, 1], ["x"]), 1, "full"),
            (Rows([], [0], [1], [0], ["x"]), 0, "root"), (Rows(["a"], [1, 1], [1, 1], [0, 0], []), 0, "families"),
            (Rows(["a"], [1, 1], [1, 1], [0, 1], []), 1, "reach"), (Rows(["A"], [1], [1], [0], []), 0, "names"),
            (Rows(["a"], [1, 0], [1, 1], [1, 0], []), 0, "texts"),
            (Rows(["a"], [1, 0], [1, 1], [1, 0], [""]), 1, "text"),
            (Rows(["a"], [1, 0, 0], [1, 0, 1], [1, 0, 0], ["x", "y"]), 2, "beside"),
            (Rows(["a"], [1] * 5001, [1] + [0] * 4999 + [1], [1] + [0] * 5000, []), 0, "large"),
        ]
        for rows, row, reason in wrong:
            before = copy.deepcopy(parts_of(rows))
            with self.assertRaises(InvalidRows) as caught:
                tree_of(rows)
            self.assertEqual((caught.exception.row, caught.exception.reason), (row, reason))
            self.assertEqual(parts_of(rows), before)

    def test_the_rows_stay_as_they_were_and_the_tree_is_new(self):
        rows = rows_of(TREE)
        before = copy.deepcopy(parts_of(rows))
        tree = tree_of(rows)
        tree[1][0][1].append("w")
        tree[1].append(("c", []))
        self.assertEqual(parts_of(rows), before)
        self.assertEqual(tree_of(rows), TREE)


if __name__ == "__main__":
    unittest.main()

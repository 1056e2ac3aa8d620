"""Points 16, 17 and 20, and the interface's heading topiary/plain.py."""

import copy
import string
import unittest

from topiary.errors import InvalidPlace
from topiary.plain import (
    children_of, depth_of, is_document, is_name, is_text, node_at, nodes_of, parent_of, same_tree, upward_path,
)
from trees import EXAMPLE, bushy, chain, laid_out, path_by_the_words, some_documents, wide


class WordsTest(unittest.TestCase):
    def test_names_at_their_limits(self):
        for word in ("a", "z", "az", "abcdefghijkl", "zzzzzzzzzzzz", string.ascii_lowercase[14:]):
            self.assertIs(is_name(word), True)
        for word in ("", "abcdefghijklm", "a" * 13, "a" * 200):
            self.assertIs(is_name(word), False)

    def test_names_have_small_letters_alone(self):
        self.assertEqual([sign for sign in map(chr, range(0x300)) if is_name(sign)], list(string.ascii_lowercase))
        for sign in "A0 _-`{\n\t.\u00e9\u00df\u0430\uff41":
            for word in (sign, "a" + sign, sign + "a", "ab" + sign + "c"):
                self.assertIs(is_name(word), False)

    def test_texts_at_their_limits(self):
        for many in (1, 2, 199, 200):
            self.assertIs(is_text("x" * many), True)
            self.assertIs(is_text("\n" * many), True)
        for many in (0, 201, 202, 1000):
            self.assertIs(is_text("x" * many), False)

    def test_characters_of_texts(self):
        right = ["\n"] + [chr(code) for code in range(32, 127)]
        self.assertEqual([sign for sign in map(chr, range(0x300)) if is_text(sign)], right)
        self.assertIs(is_text("".join(right)), True)
        for sign in "\x00\t\r\x0b\x1f\x7f\x80\u00a0\u2028\u20ac\U0001f600":
            for text in (sign, "a" + sign, sign + "a", "x" * 199 + sign):
                self.assertIs(is_text(text), False)


class DocumentTest(unittest.TestCase):
    def test_documents(self):
        for tree in some_documents():
            self.assertIs(is_document(tree), True)
        self.assertIs(is_document(("abcdefghijkl", ["x" * 200, ("a", ["\n~ "])])), True)

    def test_texts_alone_are_none(self):
        for text in ("", "a", "some text", "x" * 201):
            self.assertIs(is_document(text), False)

    def test_two_texts_side_by_side(self):
        beside = [["x", "y"], [("b", []), "x", "x"], ["x", ("b", []), "y", "z"], ["x", "y", ("b", [])]]
        for children in beside:
            self.assertIs(is_document(("a", children)), False)
            self.assertIs(is_document(("a", ["t", ("b", []), ("c", [("d", children)])])), False)
        self.assertIs(is_document(("a", ["x", ("b", ["y"]), "z"])), True)

    def test_wrong_names(self):
        for name in ("", "A", "a1", "a b", "abcdefghijklm", "\u00e9"):
            for tree in ((name, []), ("a", [(name, [])]), ("a", [("b", []), ("b", [("c", [(name, ["x"])])])])):
                self.assertIs(is_document(tree), False)
            self.assertIs(is_document(chain(60, (name, []))), False)

    def test_wrong_texts(self):
        for text in ("", "x" * 201, "\t", "a\x7f", "\u20ac"):
            for tree in (("a", [text]), ("a", ["ok", ("b", [("c", []), text])]), ("a", [("b", [text]), "ok"])):
                self.assertIs(is_document(tree), False)
            self.assertIs(is_document(chain(60, text)), False)

    def test_numbers_of_nodes(self):
        for make in (wide, bushy):
            self.assertEqual(len(laid_out(make(5000))), 5000)
            self.assertIs(is_document(make(4999)), True)
            self.assertIs(is_document(make(5000)), True)
            self.assertIs(is_document(make(5001)), False)
        rows = [("b", [("c", [])] * 49)] * 100
        self.assertIs(is_document(("a", rows[:99] + [("b", [("c", [])] * 48)])), True)
        self.assertIs(is_document(("a", rows)), False)

    def test_depths(self):
        for last in (None, "end"):
            for depth in (1, 2, 59, 60):
                self.assertIs(is_document(chain(depth, last)), not (depth == 1 and last))
            for depth in (61, 62, 100):
                self.assertIs(is_document(chain(depth, last)), False)
            self.assertIs(is_document(("a", [("b", []), chain(59, last), "x"])), True)
            self.assertIs(is_document(("a", [("b", []), chain(60, last), "x"])), False)

    def test_far_beyond_the_limits(self):
        self.assertIs(is_document(chain(3000)), False)
        self.assertIs(is_document(wide(100000)), False)
        tree = ("a", [])
        for _ in range(59):
            tree = ("a", [tree, tree])
        self.assertIs(is_document(tree), False)


class NodesTest(unittest.TestCase):
    def test_example(self):
        told = (len(nodes_of(EXAMPLE)), children_of(EXAMPLE, 0), parent_of(EXAMPLE, 2), depth_of(EXAMPLE, 2))
        self.assertEqual(told + (upward_path(EXAMPLE, 2),), (5, [1, 3, 4], 1, 3, [2, 1]))

    def check_node(self, tree, rows, number):
        node, parent, depth = rows[number]
        self.assertEqual(node_at(tree, number), node)
        self.assertEqual(parent_of(tree, number), parent)
        self.assertEqual(depth_of(tree, number), depth)
        self.assertEqual(children_of(tree, number), [k for k, row in enumerate(rows) if row[1] == number])
        self.assertEqual(upward_path(tree, number), path_by_the_words(tree, number))

    def test_each_node_of_several_documents(self):
        for tree in some_documents():
            rows = laid_out(tree)
            self.assertEqual(nodes_of(tree), [node for node, _, _ in rows])
            for number in range(len(rows)):
                self.check_node(tree, rows, number)

    def test_a_document_of_one_node(self):
        tree = ("only", [])
        self.assertEqual((nodes_of(tree), node_at(tree, 0), parent_of(tree, 0)), ([tree], tree, None))
        self.assertEqual((children_of(tree, 0), depth_of(tree, 0), upward_path(tree, 0)), ([], 1, []))

    def test_a_document_of_the_greatest_depth(self):
        tree = chain(60, "end")
        self.assertEqual((len(nodes_of(tree)), node_at(tree, 59), depth_of(tree, 59)), (60, "end", 60))
        self.assertEqual((parent_of(tree, 59), children_of(tree, 58), children_of(tree, 59)), (58, [59], []))
        self.assertEqual(upward_path(tree, 59), [1] * 59)

    def test_some_nodes_of_large_documents(self):
        for tree in (wide(5000), bushy(5000)):
            rows = laid_out(tree)
            self.assertEqual(nodes_of(tree), [node for node, _, _ in rows])
            for number in (0, 1, 2, 3, 700, 2500, 4998, 4999):
                self.check_node(tree, rows, number)

    def test_labels_are_told_by_all_names_of_the_document(self):
        tree = ("m", [("z", ["x"]), ("a", [("m", ["y"])]), ("zz", [("aa", [])])])
        paths = [upward_path(tree, node) for node in range(8)]
        self.assertEqual(paths, [[], [3], [4, 3], [3], [1, 3], [3, 1, 3], [3], [5, 3]])

    def test_invalid_place(self):
        for tree in some_documents() + [wide(5000)]:
            many = len(laid_out(tree))
            for number in (-1, many, many + 1, -many):
                for call in (node_at, parent_of, children_of, depth_of, upward_path):
                    with self.assertRaises(InvalidPlace) as caught:
                        call(tree, number)
                    self.assertEqual(caught.exception.place, number)

    def test_same_tree(self):
        trees = some_documents() + ["a", "b", ("a", [("b", [])]), ("b", [])]
        trees += [("a", [("a", []), "x"]), ("a", ["x", ("a", [])])]
        for k, tree in enumerate(trees):
            for n, other in enumerate(trees):
                self.assertIs(same_tree(tree, copy.deepcopy(other)), k == n)
        self.assertIs(same_tree(bushy(5000), bushy(5000)), True)
        self.assertIs(same_tree(chain(60), chain(60, ("y", []))), False)
        self.assertIs(same_tree(chain(60, "x"), chain(60, "y")), False)
        self.assertIs(same_tree(chain(60), chain(61)), False)

    def test_trees_beyond_the_limits_have_nodes_too(self):
        tree = chain(2000)
        self.assertEqual((len(nodes_of(tree)), depth_of(tree, 1999), node_at(tree, 1999)), (2000, 2000, ("z", [])))
        self.assertIs(same_tree(tree, chain(2000)), True)
        self.assertEqual(len(nodes_of(wide(5003))), 5003)
        self.assertEqual((nodes_of("x"), upward_path("x", 0), parent_of("x", 0)), (["x"], [], None))

    def test_the_tree_stays_as_it_was(self):
        for tree in some_documents():
            before = copy.deepcopy(tree)
            is_document(tree)
            nodes_of(tree)
            same_tree(tree, tree)
            for call in (node_at, parent_of, children_of, depth_of, upward_path):
                call(tree, 0)
                call(tree, len(nodes_of(tree)) - 1)
            self.assertEqual(tree, before)

    def test_lists_that_are_returned_are_new(self):
        tree = ("a", [("b", ["x"]), ("c", [])])
        before = copy.deepcopy(tree)
        nodes = nodes_of(tree)
        for node in nodes:
            if not isinstance(node, str):
                node[1].append("y")
        nodes.append("z")
        node_at(tree, 1)[1].append("y")
        children_of(tree, 0).append(7)
        upward_path(tree, 2).append(7)
        self.assertEqual(tree, before)
        self.assertEqual((len(nodes_of(tree)), children_of(tree, 0), upward_path(tree, 2)), (4, [1, 3], [2, 1]))


if __name__ == "__main__":
    unittest.main()

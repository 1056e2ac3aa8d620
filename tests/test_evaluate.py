"""Points 29 to 31 on kept documents, and the interface's heading topiary/evaluate.py."""

import copy
import random
import unittest
from unittest import mock

from asking import Plain, drawn_question
from topiary.errors import ImproperQuestion
from topiary.evaluate import nodes_kept
from topiary.meaning import nodes
from topiary.moves import Kept
from topiary.questions import read_question
from topiary.rows import rows_of, same_rows
from trees import EXAMPLE, bushy, chain, small_trees, some_documents, wide

# 0 a, 1 b, 2 xy, 3 c, 4 d, 5 yz, 6 xy, 7 b, 8 b, 9 c, 10 a, 11 zx
DEEP = ("a", [("b", ["xy", ("c", [("d", ["yz"])]), "xy"]), ("b", [("b", [("c", [])])]), ("a", ["zx"])])
STEP = ("child", "a", [])
IMPROPER = [
    [], [("child", "A", [])], [("child", "", [])], [("child", "a" * 13, [])], [("child", "@", [])], [("side", "a", [])],
    [("below", "a", [("place", 1)])], [("child", "a", [("place", 0)])], [("child", "a", [("place", -1)])],
    [("child", "a", [("place", 5001)])], [("child", "a", [("holds", "")])], [("child", "a", [("holds", "x" * 41)])],
    [("child", "a", [("holds", "\t")])], [("child", "a", [("has", [])])], [("child", "a", [("is", "a")])],
    [STEP] * 13, [("child", "a", [("has", [STEP] * 12)])], [STEP, ("child", "a", [("has", [("child", "B", [])])])],
    [("child", "a", [("has", [("child", "a", [("has", [("child", "a", [("has", [STEP])])])])])])],
]


def kept_of(tree):
    return Kept(rows_of(tree))


def ask(tree, text):
    return nodes_kept(kept_of(tree), read_question(text))


class EvaluateTest(unittest.TestCase):
    def check_all(self, tree, texts):
        kept = kept_of(tree)
        for text in texts:
            question = read_question(text)
            asked = copy.deepcopy(question)
            self.assertEqual(nodes_kept(kept, question), nodes(tree, question), text)
            self.assertEqual(question, asked)
        self.assertTrue(same_rows(kept.rows(), rows_of(tree)))

    def test_numbers_of_nodes_and_not_of_rows(self):
        tree = ("b", [("c", ["x"]), ("a", ["y"]), "z"])
        self.assertEqual(rows_of(tree).texts, ["y", "z", "x"])
        self.assertEqual(ask(tree, "//#"), [2, 4, 5])
        self.assertEqual(ask(tree, "/b/*"), [1, 3])
        self.assertEqual(ask(tree, '//#["x"]'), [2])
        self.assertEqual(ask(tree, "//a/#"), [4])

    def test_each_axis_test_and_filter(self):
        self.assertEqual(ask(DEEP, "/a"), [0])
        self.assertEqual(ask(DEEP, "/b"), [])
        self.assertEqual(ask(DEEP, "//*"), [0, 1, 3, 4, 7, 8, 9, 10])
        self.assertEqual(ask(DEEP, "//#"), [2, 5, 6, 11])
        self.assertEqual(ask(DEEP, "//e"), [])
        self.assertEqual(ask(DEEP, "//b//c"), [3, 9])
        self.assertEqual(ask(DEEP, "//b/#[2]"), [6])
        self.assertEqual(ask(DEEP, "//b/#[3]"), [])
        self.assertEqual(ask(DEEP, '//*["yz"]'), [0, 1, 3, 4])
        self.assertEqual(ask(DEEP, '//#["y"][/a]'), [])
        self.assertEqual(ask(DEEP, "/a/b[//c][2]"), [7])
        self.assertEqual(ask(DEEP, "/a/b[2][//c]"), [7])
        self.assertEqual(ask(DEEP, '/a/b["x"][2]'), [])
        self.assertEqual(ask(DEEP, "//*[/b[/c]]"), [0, 7])

    def test_a_node_that_is_found_several_times_is_told_once(self):
        self.assertEqual(ask(chain(8, "x"), "//a//a//#"), [7])
        self.assertEqual(ask(("a", [("a", [("a", ["x"])])]), "//*//*"), [1, 2])

    def test_some_documents(self):
        texts = [
            "/*", "//*", "//#", "/a/*", "/a/#", "/a//*", "//a//a", "//*/*[1]", "//*/*[2]", "//*[/#]", "//*[//a]",
            "//b/#",
            '//*["x"]', '//#["x"]', '//#[" "]', "//a[/b][/a]", "//*/*[/*[1]]", "/*[1]/*[1]/#[1]", "//*[/*[//*]]",
        ]
        for tree in [*some_documents(), DEEP]:
            self.check_all(tree, texts)

    def test_small_documents_against_the_words(self):
        questions = [read_question(text) for text in ("//a/*[2]", "//*[/#]", '//*["x"]/*[1]', "/*//b[//a]", "//b//#")]
        for tree in small_trees(4, ["a", "b"], "x"):
            kept = kept_of(tree)
            plain = Plain(tree)
            for question in questions:
                self.assertEqual(nodes_kept(kept, question), plain.found(None, question))

    def test_drawn_questions(self):
        dice = random.Random(31)
        for tree in [*some_documents(), DEEP, wide(12), bushy(40)]:
            kept = kept_of(tree)
            plain = Plain(tree)
            for _ in range(60):
                question = drawn_question(dice, ["a", "b", "c", "m"], ["x", "t", " ", "xy"])
                self.assertEqual(nodes_kept(kept, question), plain.found(None, question), question)

    def test_large_documents(self):
        texts = ["/*" * 12, "//*" * 12, '//*[//*[//*]]//a[/b[/a]]/*[1][//#["text"]]', "//*/#[1]",
            "//*[/*[1]/*[2]]/*[1]"]
        for tree in (bushy(5000), wide(5000), chain(60, "x")):
            self.check_all(tree, texts)

    def test_the_tree_is_not_laid_out(self):
        kept = kept_of(EXAMPLE)
        with mock.patch("topiary.shown.subtree", side_effect=AssertionError), \
                mock.patch("topiary.moves.subtree", side_effect=AssertionError):
            self.assertEqual(nodes_kept(kept, read_question("//*/#")), [2, 3])

    def test_improper_questions(self):
        kept = kept_of(EXAMPLE)
        for question in IMPROPER:
            with self.assertRaises(ImproperQuestion):
                nodes_kept(kept, question)
        self.assertTrue(same_rows(kept.rows(), rows_of(EXAMPLE)))

    def test_what_is_returned_is_new(self):
        kept = kept_of(EXAMPLE)
        question = read_question("//*")
        found = nodes_kept(kept, question)
        found.append(9)
        self.assertEqual(nodes_kept(kept, question), [0, 1, 4])


if __name__ == "__main__":
    unittest.main()

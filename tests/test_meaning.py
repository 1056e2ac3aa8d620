"""Points 30 and 31, and the interface's heading topiary/meaning.py."""

import copy
import random
import unittest

from asking import Plain, drawn_question
from topiary.errors import ImproperQuestion, InvalidPlace
from topiary.meaning import found_from, nodes
from topiary.questions import is_proper, read_question
from trees import bushy, chain, small_trees, some_documents, wide

TREE = ("a", [("b", [("c", []), "xy"]), ("b", ["xz"]), "x"])
# 0 a, 1 b, 2 xy, 3 c, 4 d, 5 yz, 6 xy, 7 b, 8 b, 9 c, 10 a, 11 zx
DEEP = ("a", [("b", ["xy", ("c", [("d", ["yz"])]), "xy"]), ("b", [("b", [("c", [])])]), ("a", ["zx"])])
IMPROPER = [
    [], [("child", "A", [])], [("side", "a", [])], [("below", "a", [("place", 1)])], [("child", "a", [("place", 0)])],
    [("child", "a", [("holds", "")])], [("child", "a", [("has", [])])], [("child", "a", [("is", "a")])],
    [("child", "a", [])] * 13,
]


def ask(tree, text):
    return nodes(tree, read_question(text))


class MeaningTest(unittest.TestCase):
    def check(self, tree, texts):
        for text, expected in texts.items():
            before = copy.deepcopy(tree)
            question = read_question(text)
            asked = copy.deepcopy(question)
            self.assertEqual(nodes(tree, question), expected, text)
            self.assertEqual((tree, question), (before, asked))

    def check_from(self, tree, node, texts):
        for text, expected in texts.items():
            self.assertEqual(found_from(tree, node, read_question(text)), expected, text)


class AnswersTest(MeaningTest):
    def test_example(self):
        question = read_question('/a//b[/c]/#["x"]')
        told = (nodes(TREE, question), nodes(TREE, [("below", "*", [("holds", "z")])]))
        self.assertEqual(told, ([3], [0, 4]))
        self.assertEqual(nodes(TREE, [("child", "a", []), ("child", "b", [("place", 2)])]), [4])

    def test_only_the_root_is_a_child_of_the_outside(self):
        self.check(DEEP, {"/a": [0], "/*": [0], "/b": [], "/#": [], "/a[1]": [0], "/a[2]": [], "/*[1]": [0]})

    def test_below_the_outside_are_all_nodes(self):
        self.check(DEEP, {
            "//*": [0, 1, 3, 4, 7, 8, 9, 10], "//#": [2, 5, 6, 11], "//a": [0, 10], "//b": [1, 7, 8], "//c": [3, 9],
            "//d": [4], "//e": [],
        })

    def test_tests(self):
        self.check(DEEP, {
            "/a/b": [1, 7], "/a/*": [1, 7, 10], "/a/#": [], "/a/a": [10], "/*/*/#": [2, 6, 11], "/a//#": [2, 5, 6, 11],
            "/a//*": [1, 3, 4, 7, 8, 9, 10], "/a/b/c": [3], "/a/b//c": [3, 9], "//c/*": [4], "//#/*": [], "//#//#": [],
        })

    def test_nodes_that_are_found_several_times(self):
        self.check(DEEP, {
            "//*//*": [1, 3, 4, 7, 8, 9, 10], "//b//c": [3, 9], "//*//*//*": [3, 4, 8, 9], "//*//#": [2, 5, 6, 11],
        })

    def test_places(self):
        self.check(DEEP, {
            "/a/b[1]": [1], "/a/b[2]": [7], "/a/b[3]": [], "/a/*[3]": [10], "/a/*[5000]": [], "//b/#[2]": [6],
            "//*/*[1]": [1, 3, 4, 8, 9], "//*/b[1]": [1, 8], "/a/b[1][1]": [1], "/a/b[2][1]": [7], "/a/b[2][2]": [],
        })

    def test_filters_in_different_orders(self):
        self.check(DEEP, {
            "/a/b[/b][1]": [7], "/a/b[1][/b]": [], "/a/b[2][/b]": [7], "/a/*[/#][2]": [10], "/a/*[2][/#]": [],
            '/a/b/#["y"][2]': [6], '/a/b/#[2]["y"]': [6], '/a/*["x"][2]': [10], '/a/*[2]["x"]': [], '//*["z"][/d]': [3],
        })

    def test_has(self):
        self.check(DEEP, {
            "//*[/c]": [1, 8], "//*[//c]": [0, 1, 7, 8], "//*[/#]": [1, 4, 10], "//*[//#]": [0, 1, 3, 4, 10],
            "//*[/b[/c]]": [0, 7], "//*[/b/c]": [0, 7], "//*[/*[2]]": [0], "//*[/#[2]]": [1], "//*[/b[2][/b]]": [0],
            "//#[/*]": [], "//#[//#]": [], "//c[/*]": [3], "/a[/a][/b]": [0], "/a[/c]": [],
        })

    def test_holds(self):
        self.check(DEEP, {
            '//#["x"]': [2, 6, 11], '//#["z"]': [5, 11], '//*["yz"]': [0, 1, 3, 4], '//*["zx"]': [0, 10],
            '//*["xy"]': [0, 1], '//b["y"]["z"]': [1], '//*["q"]': [], '//c["y"]': [3], '//*[/#["x"]]': [1, 10],
        })

    def test_a_string_across_two_texts_is_not_held(self):
        tree = ("a", ["ab", ("c", ["cd"]), "ef", ("b", [("b", ["gh\n"]), "i"])])
        self.check(tree, {'//*["abc"]': [], '//*["bc"]': [], '//*["cdef"]': [], '//*["h\\ni"]': []})
        self.check(tree, {'//*["h\\n"]': [0, 5, 6], '//*["ab"]': [0], '//*["cd"]': [0, 2], '//*["ef"]': [0]})

    def test_texts_far_beneath(self):
        tree = chain(60, "needle")
        above = list(range(59))
        self.check(tree, {'//*["dle"]': above, '//*["dly"]': [], '//#["need"]': [59], "//*[//#]": above})
        self.check(tree, {"/a" * 12: [11], "//a" * 12: list(range(11, 59)), "/a" * 11 + "//#": [59]})

    def test_a_document_of_one_node(self):
        self.check(("a", []), {"/a": [0], "//*": [0], "/b": [], "/a/*": [], "/a//#": [], '//*["x"]': []})
        self.check(("a", []), {"//*[//*]": [], "/a[/*]": [], "/a[1]": [0]})

    def test_large_documents(self):
        tree = wide(5000)
        self.check(tree, {"/r/b[2500]": [], "/r/#[2500]": [4999], "/r/b[2499]": [4998], '//*["t"]': [0]})
        self.check(tree, {'//#["t"]': list(range(1, 5000, 2)), "//*[/b[2499]]": [0], "//*[/b[2500]]": []})
        tree = bushy(5000)
        self.assertEqual(ask(tree, "//*" * 12), ask(tree, "/*" * 11 + "//*"))

    def test_from_nodes(self):
        self.check_from(DEEP, 0, {"/b": [1, 7], "//b": [1, 7, 8], "/a": [10], "//#": [2, 5, 6, 11], "/b[2]": [7]})
        self.check_from(DEEP, 1, {"/*": [3], "//*": [3, 4], "/#[2]": [6], "//d/#": [5], "/b": []})
        self.check_from(DEEP, 2, {"/*": [], "//*": [], "/#": [], "//#": []})
        self.check_from(DEEP, 7, {"//*": [8, 9], "//c[/*]": [], "/b[/c]": [8]})
        self.check_from(DEEP, 11, {"//#": [], "/#": []})
        self.check_from(("a", []), 0, {"/a": [], "//*": []})


class ErrorsTest(MeaningTest):
    def test_improper_questions(self):
        for question in IMPROPER:
            self.assertFalse(is_proper(question))
            with self.assertRaises(ImproperQuestion):
                nodes(TREE, question)
            for node in (0, -1, 6, 7):
                with self.assertRaises(ImproperQuestion):
                    found_from(TREE, node, question)

    def test_invalid_places(self):
        for tree, many in ((TREE, 7), (DEEP, 12), (("a", []), 1), (wide(5000), 5000)):
            for node in (-1, many, many + 1, -many):
                with self.assertRaises(InvalidPlace) as caught:
                    found_from(tree, node, [("below", "*", [])])
                self.assertEqual(caught.exception.place, node)
            self.assertEqual(found_from(tree, many - 1, [("below", "*", [])]), [])


class AgainstTheWordsTest(MeaningTest):
    def check_all(self, tree, question):
        plain = Plain(tree)
        before = copy.deepcopy((tree, question))
        self.assertEqual(nodes(tree, question), plain.found(None, question))
        for node in range(min(len(plain.nodes), 25)):
            self.assertEqual(found_from(tree, node, question), plain.found(node, question))
        self.assertEqual((tree, question), before)

    def test_questions_that_are_drawn(self):
        dice = random.Random(30)
        trees = some_documents()[:6] + [TREE, DEEP, bushy(40), bushy(25), chain(12, "x")]
        for _ in range(500):
            question = drawn_question(dice, ["a", "b", "c"], ["x", "y", "xy", "z", "text", "t a"])
            self.check_all(dice.choice(trees), question)

    def test_short_questions_in_all_small_documents(self):
        dice = random.Random(31)
        for tree in small_trees(4, ["a", "b"], "xy"):
            for _ in range(5):
                self.check_all(tree, drawn_question(dice, ["a", "b"], ["x", "y", "yx"], 3))

    def test_what_is_returned_is_new(self):
        question = read_question("//*")
        nodes(TREE, question).append(7)
        found_from(TREE, 0, question).append(7)
        self.assertEqual((nodes(TREE, question), found_from(TREE, 0, question)), ([0, 1, 2, 4], [1, 2, 4]))


if __name__ == "__main__":
    unittest.main()

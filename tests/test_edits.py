"""Points 40 to 42, and the interface's heading topiary/edits.py."""

import copy
import random
import unittest

from editing import drawn_edit, reason_by_the_words, rebuilt
from topiary.edits import edited, taken_back
from topiary.errors import InvalidEdit
from topiary.plain import is_document
from trees import EXAMPLE, bushy, chain, laid_out, some_documents, wide

TREE = ("a", [("b", ["x"]), ("c", [])])
# 0 a, 1 "s", 2 b, 3 "t", 4 c, 5 d, 6 "u", 7 e, 8 "v"
TEXTS = ("a", ["s", ("b", ["t"]), ("c", [("d", [])]), "u", ("e", []), "v"])


def reason_of(function, tree, edit):
    try:
        function(tree, edit)
    except InvalidEdit as error:
        return error.reason
    return None


def edits_everywhere(tree):
    """Edits of each kind at each node, and beside the nodes that there are."""
    many = len(laid_out(tree))
    for node in [*range(-1, many + 1), -many, 10 ** 20, -10 ** 20]:
        yield ("cut", node)
        for word in ("a", "new", "z" * 12, "", "z" * 13, "A", "a b"):
            yield ("rename", node, word)
        for string in ("a", "x" * 200, "\n", "", "x" * 201, "\t", "caf\u00e9"):
            yield ("retext", node, string)
        for k in (-10 ** 20, -1, 0, 1, 2, 3, 4, 10 ** 20):
            for grafted in ("g", ("g", []), ("g", ["h", ("i", ["j"])]), "", ("g", ["h", "i"]), ("G", [])):
                yield ("graft", node, k, grafted)


class EditsTest(unittest.TestCase):
    def check(self, tree, edit):
        before = copy.deepcopy((tree, edit))
        reason = reason_by_the_words(tree, edit)
        self.assertEqual(reason_of(edited, tree, edit), reason, edit)
        self.assertEqual(reason_of(taken_back, tree, edit), reason, edit)
        if reason is None:
            behind = edited(tree, edit)
            self.assertEqual(behind, rebuilt(tree, edit)[0][0])
            self.assertTrue(is_document(behind))
            back = taken_back(tree, edit)
            self.assertEqual(edited(behind, back), tree, (edit, back))
        self.assertEqual((tree, edit), before)
        return reason

    def check_reason(self, tree, edit, reason):
        self.assertEqual(self.check(tree, edit), reason, edit)

    def test_example(self):
        self.assertEqual(edited(TREE, ("graft", 3, 0, "y")), ("a", [("b", ["x"]), ("c", ["y"])]))
        self.assertEqual(taken_back(TREE, ("cut", 1)), ("graft", 0, 0, ("b", ["x"])))
        self.assertEqual(reason_of(edited, TREE, ("cut", 0)), "root")

    def test_each_kind_by_hand(self):
        self.assertEqual(edited(TREE, ("rename", 0, "r")), ("r", [("b", ["x"]), ("c", [])]))
        self.assertEqual(edited(TREE, ("rename", 1, "r")), ("a", [("r", ["x"]), ("c", [])]))
        self.assertEqual(edited(TREE, ("rename", 1, "b")), TREE)
        self.assertEqual(edited(TREE, ("retext", 2, "y\n")), ("a", [("b", ["y\n"]), ("c", [])]))
        self.assertEqual(edited(TREE, ("cut", 1)), ("a", [("c", [])]))
        self.assertEqual(edited(TREE, ("cut", 2)), ("a", [("b", []), ("c", [])]))
        self.assertEqual(edited(TREE, ("cut", 3)), ("a", [("b", ["x"])]))
        self.assertEqual(edited(TREE, ("graft", 0, 0, "y")), ("a", ["y", ("b", ["x"]), ("c", [])]))
        self.assertEqual(edited(TREE, ("graft", 0, 2, ("d", ["z"]))), ("a", [("b", ["x"]), ("c", []), ("d", ["z"])]))
        self.assertEqual(edited(TREE, ("graft", 1, 1, TREE)), ("a", [("b", ["x", TREE]), ("c", [])]))

    def test_taken_back_by_hand(self):
        self.assertEqual(taken_back(TREE, ("rename", 0, "r")), ("rename", 0, "a"))
        self.assertEqual(taken_back(TREE, ("rename", 3, "c")), ("rename", 3, "c"))
        self.assertEqual(taken_back(TREE, ("retext", 2, "y")), ("retext", 2, "x"))
        self.assertEqual(taken_back(TREE, ("cut", 2)), ("graft", 1, 0, "x"))
        self.assertEqual(taken_back(TREE, ("cut", 3)), ("graft", 0, 1, ("c", [])))
        self.assertEqual(taken_back(TREE, ("graft", 0, 0, "y")), ("cut", 1))
        self.assertEqual(taken_back(TREE, ("graft", 0, 1, "y")), ("cut", 3))
        self.assertEqual(taken_back(TREE, ("graft", 0, 2, "y")), ("cut", 4))
        self.assertEqual(taken_back(TREE, ("graft", 1, 1, ("c", ["z"]))), ("cut", 3))
        self.assertEqual(taken_back(TREE, ("graft", 3, 0, "y")), ("cut", 4))

    def test_each_kind_at_each_node(self):
        for tree in some_documents():
            for edit in edits_everywhere(tree) if len(laid_out(tree)) < 20 else []:
                self.check(tree, edit)

    def test_drawn_edits(self):
        dice = random.Random(40)
        for tree in [*some_documents(), TEXTS, bushy(30)]:
            for _ in range(300):
                self.check(tree, drawn_edit(dice, len(laid_out(tree))))

    def test_node(self):
        for node in (-1, 4, 5, -4, 10 ** 30, -10 ** 30):
            for edit in (("cut", node), ("rename", node, ""), ("retext", node, ""), ("graft", node, -1, "")):
                self.check_reason(TREE, edit, "node")

    def test_kind(self):
        self.check_reason(TREE, ("rename", 2, "b"), "kind")
        self.check_reason(TREE, ("rename", 2, "B"), "kind")
        self.check_reason(TREE, ("graft", 2, 0, ("b", [])), "kind")
        self.check_reason(TREE, ("graft", 2, -1, ""), "kind")
        for node in (0, 1, 3):
            self.check_reason(TREE, ("retext", node, "x"), "kind")
            self.check_reason(TREE, ("retext", node, ""), "kind")

    def test_root(self):
        self.check_reason(TREE, ("cut", 0), "root")
        self.check_reason(("a", []), ("cut", 0), "root")

    def test_name_and_text(self):
        for word in ("", "B", "a" * 13, "a1", "#", "*", "a\n", "a b", "\u00e9"):
            self.check_reason(TREE, ("rename", 1, word), "name")
        for string in ("", "x" * 201, "\t", "a\x7f", "\u00e9", "x\r\n"):
            self.check_reason(TREE, ("retext", 2, string), "text")
        self.check_reason(TREE, ("rename", 1, "a" * 12), None)
        self.check_reason(TREE, ("retext", 2, "x" * 200), None)

    def test_place_and_tree(self):
        for k in (-1, 3, 4, -3, 10 ** 30, -10 ** 30):
            self.check_reason(TREE, ("graft", 0, k, ""), "place")
            self.check_reason(TREE, ("graft", 0, k, "x"), "place")
        self.check_reason(TREE, ("graft", 3, 1, "x"), "place")
        for tree in ("", "x" * 201, "\t", ("", []), ("A", []), ("a", ["x", "y"]), ("a", [("b", ["x", "y"])]),
                ("a", [""])):
            self.check_reason(TREE, ("graft", 0, 0, tree), "tree")
            # Beside a text, too, the tree that is none counts first.
            self.check_reason(TREE, ("graft", 1, 0, tree), "tree")

    def test_beside(self):
        for node, reason in ((2, None), (4, None), (6, None), (7, "beside")):
            self.check_reason(TEXTS, ("cut", node), reason)
        self.check_reason(("a", ["x", ("b", []), "y"]), ("cut", 2), "beside")
        self.check_reason(("a", ["x", ("b", ["z"]), "y"]), ("cut", 3), None)
        self.check_reason(("a", ["x", ("b", []), ("b", []), "y"]), ("cut", 2), None)
        self.check_reason(("a", ["x", ("b", [])]), ("cut", 2), None)
        self.check_reason(("a", [("b", []), "x"]), ("cut", 1), None)
        self.check_reason(("a", [("b", []), "x", ("b", [])]), ("cut", 2), None)
        self.check_reason(("a", [("b", ["x"]), ("c", []), ("d", ["y"])]), ("cut", 3), None)
        for k, reason in enumerate(["beside", "beside", None, "beside", "beside", "beside", "beside"]):
            self.check_reason(TEXTS, ("graft", 0, k, "w"), reason)
            self.check_reason(TEXTS, ("graft", 0, k, ("w", ["w"])), None)
        self.check_reason(("a", []), ("graft", 0, 0, "w"), None)

    def test_size(self):
        self.check_reason(wide(5000), ("graft", 0, 0, ("g", [])), "size")
        self.check_reason(wide(5000), ("graft", 0, 1, "x"), "beside")
        self.check_reason(wide(4999), ("graft", 0, 0, ("g", [])), None)
        self.check_reason(wide(4999), ("graft", 0, 0, ("g", ["x"])), "size")
        self.check_reason(wide(5000), ("rename", 0, "g"), None)
        self.check_reason(wide(5000), ("retext", 1, "g"), None)
        self.check_reason(chain(60), ("graft", 59, 0, "x"), "size")
        self.check_reason(chain(60), ("graft", 58, 1, "x"), None)
        self.check_reason(chain(60), ("graft", 58, 0, ("g", [])), None)
        self.check_reason(chain(60), ("graft", 58, 0, ("g", ["x"])), "size")
        self.check_reason(chain(30), ("graft", 29, 0, chain(30)), None)
        self.check_reason(chain(30), ("graft", 29, 0, chain(31)), "size")
        self.check_reason(chain(30, "x"), ("graft", 0, 0, chain(60)), "size")
        self.check_reason(chain(30, "x"), ("graft", 0, 0, chain(59)), None)
        self.check_reason(("a", []), ("graft", 0, 0, wide(4999)), None)
        self.check_reason(("a", []), ("graft", 0, 0, wide(5000)), "size")
        self.assertEqual(reason_of(edited, ("a", []), ("graft", 0, 0, wide(9000))), "size")
        self.assertEqual(reason_of(edited, ("a", []), ("graft", 0, 0, chain(3000))), "size")
        self.assertEqual(reason_of(edited, ("a", []), ("graft", 0, 0, chain(3000, ("b", ["x", "y"])))), "tree")

    def test_what_is_returned_is_new(self):
        grafted = ("g", [("h", [])])
        tree = copy.deepcopy(TREE)
        for edit in (("graft", 3, 0, grafted), ("graft", 0, 0, grafted), ("rename", 0, "r"), ("rename", 1, "r"),
                ("cut", 3)):
            behind = edited(tree, edit)
            for node, _, _ in laid_out(behind):
                if not isinstance(node, str):
                    node[1].append(("more", []))
            self.assertEqual((tree, grafted), (TREE, ("g", [("h", [])])))
        back = taken_back(tree, ("cut", 1))
        back[3][1].append(("more", []))
        self.assertEqual(tree, TREE)

    def test_rows_of_edits_are_taken_back(self):
        dice = random.Random(42)
        for start in (TREE, TEXTS, EXAMPLE, bushy(60), ("a", [])):
            tree, backs, trees = start, [], []
            for _ in range(150):
                edit = drawn_edit(dice, len(laid_out(tree)))
                if self.check(tree, edit) is None:
                    backs.append(taken_back(tree, edit))
                    trees.append(tree)
                    tree = edited(tree, edit)
            self.assertGreater(len(backs), 30)
            while backs:
                tree = edited(tree, backs.pop())
                self.assertEqual(tree, trees.pop())
            self.assertEqual(tree, start)


if __name__ == "__main__":
    unittest.main()

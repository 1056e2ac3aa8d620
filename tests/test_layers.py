"""Points 43 to 45, and the interface's heading topiary/layers.py."""

import copy
import random
import unittest
from unittest import mock

from asking import drawn_question
from editing import drawn_edit, reason_by_the_words, rebuilt
from test_evaluate import IMPROPER
from topiary.edits import edited, taken_back
from topiary.errors import ImproperQuestion, InvalidDocument, InvalidEdit
from topiary.layers import Layers
from topiary.meaning import nodes
from topiary.questions import read_question
from topiary.rows import rows_of, same_rows
from topiary.shown import Laid
from trees import EXAMPLE, bushy, chain, laid_out, some_documents, wide

TREE = ("a", [("b", ["x"]), ("c", [])])
NO_DOCUMENTS = [
    "x", ("A", []), ("", []), ("a", ["x", "y"]), ("a", [""]), ("a", [("b", ["\t"])]), wide(5001), chain(61),
    ("a", ["x" * 201]),
]


class Marked:
    """A node that knows which node of the document below it was, and whether an edit named it or one within it."""

    def __init__(self, tree, numbers=None):
        self.origin = next(numbers) if numbers else None
        self.is_touched = numbers is None
        self.name = None if isinstance(tree, str) else tree[0]
        self.children = [] if isinstance(tree, str) else [Marked(child, numbers) for child in tree[1]]

    def way_to(self, node):
        """The nodes from this one to the one with a number, this one having the number 0."""
        if node == 0:
            return [self]
        node -= 1
        for child in self.children:
            if node < child.weight():
                return [self] + child.way_to(node)
            node -= child.weight()

    def weight(self):
        return 1 + sum(child.weight() for child in self.children)

    def edit(self, kind, node, *rest):
        way = self.way_to(node)
        for one in way:
            one.is_touched = True
        if kind == "cut":
            way[-2].children.remove(way[-1])
        if kind == "graft":
            way[-1].children.insert(rest[0], Marked(rest[1]))

    def untouched(self):
        found = [] if self.is_touched else [self.origin]
        for child in self.children:
            found += child.untouched()
        return found


def kept_and_laid(layers):
    """The nodes of the document below that layers keep as rows, and how many others they have laid out."""
    kept, laid = [], 0
    waiting = list(layers._shown.parts)
    while waiting:
        part = waiting.pop()
        if isinstance(part, tuple):
            for row in range(*part):
                node = layers._kept.node_of_row(row)
                kept += range(node, node + layers._kept.weigh(row))
        else:
            laid += 1
            waiting += part.parts if isinstance(part, Laid) else []
    return sorted(kept), laid


class LayersTest(unittest.TestCase):
    def check_shown(self, layers, tree, questions=()):
        self.assertEqual(layers.shown(), tree)
        self.assertTrue(same_rows(layers.rows(), rows_of(tree)))
        for question in questions:
            self.assertEqual(layers.find(question), nodes(tree, question), question)

    def check_refused(self, layers, edit, reason):
        before = (layers.shown(), layers.edits(), layers.below())
        with self.assertRaises(InvalidEdit) as caught:
            layers.lay(edit)
        self.assertEqual(caught.exception.reason, reason)
        self.assertEqual((layers.shown(), layers.edits(), layers.below()), before)


class CoursesTest(LayersTest):
    def test_example(self):
        layers = Layers(TREE)
        layers.lay(("rename", 1, "c"))
        self.assertEqual(layers.shown(), ("a", [("c", ["x"]), ("c", [])]))
        self.assertEqual(layers.below(), TREE)
        self.assertEqual(layers.find([("below", "c", [])]), [1, 3])
        self.assertEqual(layers.lift(), ("rename", 1, "c"))
        self.assertEqual((layers.edits(), layers.shown()), ([], TREE))

    def test_without_edits(self):
        for tree in some_documents():
            layers = Layers(tree)
            self.check_shown(layers, tree, [read_question(text) for text in ("//*", "//#", "/a/*[1]", "//*[/#]")])
            self.assertEqual((layers.edits(), layers.below(), layers.lift()), ([], tree, None))
            self.assertEqual(layers.shown(), tree)

    def test_each_kind_of_edit(self):
        for edit, shown in (
            (("rename", 0, "r"), ("r", [("b", ["x"]), ("c", [])])),
            (("rename", 3, "r"), ("a", [("b", ["x"]), ("r", [])])),
            (("retext", 2, "y"), ("a", [("b", ["y"]), ("c", [])])),
            (("cut", 1), ("a", [("c", [])])),
            (("cut", 2), ("a", [("b", []), ("c", [])])),
            (("graft", 0, 0, "y"), ("a", ["y", ("b", ["x"]), ("c", [])])),
            (("graft", 0, 1, "y"), ("a", [("b", ["x"]), "y", ("c", [])])),
            (("graft", 0, 2, ("d", ["y"])), ("a", [("b", ["x"]), ("c", []), ("d", ["y"])])),
            (("graft", 3, 0, TREE), ("a", [("b", ["x"]), ("c", [TREE])])),
        ):
            layers = Layers(TREE)
            self.assertIsNone(layers.lay(edit))
            self.check_shown(layers, shown, [read_question(text) for text in ("//*", "//#", "/a/*[2]/#", '//*["y"]')])
            self.assertEqual((layers.edits(), layers.below()), ([edit], TREE))
            self.assertEqual(layers.lift(), edit)
            self.check_shown(layers, TREE)
            layers.lay(edit)
            self.assertIsNone(layers.merge())
            self.assertEqual((layers.edits(), layers.below(), layers.lift()), ([], shown, None))
            self.check_shown(layers, shown)

    def test_each_edit_behind_each_other_one(self):
        tree = ("a", ["s", ("b", ["t", ("c", [])]), ("b", []), "u"])
        many = len(laid_out(tree))
        firsts = [("cut", node) for node in range(many)] + [("rename", node, "n") for node in range(many)]
        firsts += [("graft", node, k, ("g", ["h", ("i", [])])) for node in range(many) for k in range(5)]
        for first in firsts:
            if reason_by_the_words(tree, first) is not None:
                continue
            shown = rebuilt(tree, first)[0][0]
            size = len(laid_out(shown))
            seconds = [("cut", node) for node in range(size)] + [("rename", node, "m") for node in range(size)]
            seconds += [("retext", node, "w") for node in range(size)]
            seconds += [("graft", node, k, ("g", [])) for node in range(size) for k in range(6)]
            layers = Layers(tree)
            layers.lay(first)
            for second in seconds:
                if reason_by_the_words(shown, second) is None:
                    layers.lay(second)
                    self.check_shown(layers, rebuilt(shown, second)[0][0])
                    self.assertEqual(layers.lift(), second)
                    self.assertEqual(layers.shown(), shown)

    def check_course(self, start, dice, steps):
        layers = Layers(start)
        # What is shown without edits, with the first one, and so on.
        below, edits, trees = start, [], [start]
        for _ in range(steps):
            chance = dice.randrange(12)
            if chance == 0:
                layers.merge()
                below, edits, trees = trees[-1], [], [trees[-1]]
            elif chance < 3:
                self.assertEqual(layers.lift(), edits.pop() if edits else None)
                trees = trees[:len(edits) + 1]
            else:
                edit = drawn_edit(dice, len(laid_out(trees[-1])))
                reason = reason_by_the_words(trees[-1], edit)
                if reason is not None:
                    self.check_refused(layers, edit, reason)
                else:
                    layers.lay(edit)
                    edits.append(edit)
                    trees.append(rebuilt(trees[-1], edit)[0][0])
            self.assertEqual((layers.edits(), layers.below()), (edits, below))
            question = drawn_question(dice, ["a", "b", "f"], ["x", "v"])
            self.check_shown(layers, trees[-1], [question])

    def test_drawn_courses(self):
        dice = random.Random(44)
        for start in [*some_documents(), ("a", ["s", ("b", ["t"]), "u"]), bushy(50), wide(40)]:
            self.check_course(start, dice, 150)

    def test_merged_at_any_time(self):
        dice = random.Random(43)
        for start in (EXAMPLE, bushy(40)):
            edits, tree = [], start
            while len(edits) < 25:
                edit = drawn_edit(dice, len(laid_out(tree)))
                if reason_by_the_words(tree, edit) is None:
                    edits.append(edit)
                    tree = edited(tree, edit)
            for merged_behind in range(len(edits) + 1):
                layers = Layers(start)
                for number, edit in enumerate(edits):
                    if number == merged_behind:
                        layers.merge()
                    layers.lay(edit)
                self.check_shown(layers, tree)
                self.assertEqual(layers.edits(), edits[merged_behind:] if merged_behind < len(edits) else edits)

    def test_two_lists_of_edits_that_lead_to_the_same(self):
        one, two = Layers(TREE), Layers(TREE)
        one.lay(("rename", 1, "c"))
        one.lay(("cut", 3))
        two.lay(("cut", 1))
        two.lay(("graft", 1, 0, "x"))
        self.assertEqual(one.shown(), two.shown())
        self.assertTrue(same_rows(one.rows(), two.rows()))
        for question in (read_question("//c"), read_question("//#"), read_question("/a/*[/#]")):
            self.assertEqual(one.find(question), two.find(question))

    def test_edits_taken_back_by_edits(self):
        tree = bushy(40)
        dice = random.Random(45)
        layers = Layers(tree)
        backs = []
        while len(backs) < 40:
            edit = drawn_edit(dice, len(laid_out(layers.shown())))
            if reason_by_the_words(layers.shown(), edit) is None:
                backs.append(taken_back(layers.shown(), edit))
                layers.lay(edit)
        for back in backs[::-1]:
            layers.lay(back)
        self.check_shown(layers, tree)
        self.assertEqual(len(layers.edits()), 80)


class WrongInputsTest(LayersTest):
    def test_no_documents(self):
        for tree in NO_DOCUMENTS:
            with self.assertRaises(InvalidDocument):
                Layers(tree)

    def test_refused_by_what_is_shown(self):
        layers = Layers(TREE)
        layers.lay(("cut", 1))
        self.check_refused(layers, ("rename", 2, "b"), "node")
        self.check_refused(layers, ("retext", 1, "b"), "kind")
        layers.lay(("graft", 1, 0, "y"))
        self.check_refused(layers, ("rename", 2, "b"), "kind")
        self.check_refused(layers, ("graft", 1, 2, "y"), "place")
        self.check_refused(layers, ("graft", 1, 1, "y"), "beside")
        self.check_refused(layers, ("graft", 1, 0, "y"), "beside")
        layers.lay(("graft", 1, 1, ("b", [])))
        layers.lay(("graft", 1, 2, "z"))
        self.check_refused(layers, ("cut", 3), "beside")
        for node in (-1, 5, 10 ** 20):
            self.check_refused(layers, ("cut", node), "node")
        self.check_refused(layers, ("cut", 0), "root")
        self.check_refused(layers, ("rename", 0, "A"), "name")
        self.check_refused(layers, ("retext", 2, ""), "text")
        self.check_refused(layers, ("graft", 0, 0, ("b", ["x", "y"])), "tree")

    def test_size(self):
        layers = Layers(wide(4999))
        layers.lay(("graft", 0, 0, ("g", [])))
        self.check_refused(layers, ("graft", 0, 0, ("g", [])), "size")
        layers.lay(("cut", 1))
        layers.lay(("graft", 0, 0, ("g", [])))
        layers = Layers(chain(59))
        layers.lay(("graft", 58, 0, ("g", [])))
        self.check_refused(layers, ("graft", 59, 0, ("g", [])), "size")
        layers.merge()
        self.check_refused(layers, ("graft", 59, 0, "x"), "size")

    def test_improper_questions(self):
        layers = Layers(TREE)
        layers.lay(("rename", 1, "c"))
        for question in IMPROPER:
            with self.assertRaises(ImproperQuestion):
                layers.find(question)
        self.check_shown(layers, ("a", [("c", ["x"]), ("c", [])]))

    def test_what_is_passed_may_be_changed_afterwards(self):
        tree, grafted = copy.deepcopy(TREE), ("g", [("h", ["x"])])
        layers = Layers(tree)
        layers.lay(("graft", 3, 0, grafted))
        tree[1].clear()
        grafted[1][0][1].append(("i", []))
        shown = ("a", [("b", ["x"]), ("c", [("g", [("h", ["x"])])])])
        self.check_shown(layers, shown)
        self.assertEqual((layers.edits(), layers.below()), ([("graft", 3, 0, ("g", [("h", ["x"])]))], TREE))
        layers.merge()
        self.check_shown(layers, shown)

    def test_what_is_returned_may_be_changed_afterwards(self):
        layers = Layers(TREE)
        edit = ("graft", 0, 0, ("g", [("h", ["x"])]))
        layers.lay(edit)
        shown = ("a", [("g", [("h", ["x"])]), ("b", ["x"]), ("c", [])])
        for _ in range(2):
            for tree in (layers.shown(), layers.below(), layers.edits()[0][3]):
                for node, _, _ in laid_out(tree):
                    if not isinstance(node, str):
                        node[1].clear()
            layers.edits().clear()
            layers.find([("below", "*", [])]).clear()
            rows = layers.rows()
            for part in (rows.names, rows.labels, rows.lasts, rows.fulls, rows.texts):
                part.clear()
            self.check_shown(layers, shown, [[("below", "*", [])]])
            self.assertEqual((layers.edits(), layers.below()), ([edit], TREE))
        lifted = layers.lift()
        self.assertEqual(lifted, edit)
        lifted[3][1].clear()
        layers.lay(edit)
        self.check_shown(layers, shown)

    def test_arguments_stay(self):
        tree, edit = copy.deepcopy(EXAMPLE), ("graft", 0, 0, ("g", [("h", ["x"])]))
        before = copy.deepcopy((tree, edit))
        layers = Layers(tree)
        layers.lay(edit)
        layers.lay(("rename", 1, "k"))
        layers.lay(("cut", 2))
        layers.merge()
        layers.lay(("cut", 1))
        self.assertEqual((tree, edit), before)


class UntouchedTest(LayersTest):
    def check_untouched(self, layers, marked):
        kept, laid = kept_and_laid(layers)
        self.assertEqual(kept, sorted(marked.untouched()))
        self.assertEqual(laid, marked.weight() - len(kept))

    def test_untouched_nodes_are_kept_as_rows(self):
        dice = random.Random(5000)
        for tree in (bushy(5000), wide(5000), bushy(300), chain(60, "x")):
            layers = Layers(tree)
            marked = Marked(tree, iter(range(5000)))
            self.check_untouched(layers, marked)
            laid = 0
            for _ in range(60):
                edit = drawn_edit(dice, marked.weight())
                try:
                    layers.lay(edit)
                except InvalidEdit:
                    continue
                marked.edit(*edit)
                laid += 1
                self.check_untouched(layers, marked)
            self.assertEqual(layers.shown(), edited_by_all(tree, layers.edits()))
            while laid:
                layers.lift()
                laid -= 1
            self.check_untouched(layers, Marked(tree, iter(range(5000))))

    def test_few_nodes_are_laid_out(self):
        tree = bushy(4900)
        depths = [row[2] for row in laid_out(tree)]
        node = depths.index(max(depths))
        layers = Layers(tree)
        layers.lay(("retext" if isinstance(laid_out(tree)[node][0], str) else "rename", node, "q"))
        self.assertEqual(kept_and_laid(layers)[1], max(depths))
        layers.lay(("graft", 0, 0, ("g", ["x", ("h", [])])))
        self.assertEqual(kept_and_laid(layers)[1], max(depths) + 3)
        layers.merge()
        self.assertEqual(kept_and_laid(layers), (list(range(4903)), 0))

    def test_questions_and_edits_do_not_lay_out_the_document(self):
        layers = Layers(("a", [("b", [("c", ["y"])]), ("d", ["z"])]))
        edits = [("rename", 0, "q"), ("graft", 1, 1, ("g", ["x"])), ("cut", 3)]
        with mock.patch("topiary.shown.subtree", side_effect=AssertionError):
            for edit in edits:
                layers.lay(edit)
            self.assertEqual(layers.find(read_question("//*[/#]")), [3, 5])
            layers.lift()
            self.assertEqual(layers.find(read_question("//*[/#]")), [2, 4, 6])

    def test_many_edits(self):
        tree = wide(5000)
        layers = Layers(tree)
        for node in range(1, 1000, 2):
            layers.lay(("retext", node, "s"))
        self.assertEqual(layers.find(read_question('//#["s"]')), list(range(1, 1000, 2)))
        while layers.lift() is not None:
            pass
        self.check_shown(layers, tree)


def edited_by_all(tree, edits):
    for edit in edits:
        tree = edited(tree, edit)
    return tree


if __name__ == "__main__":
    unittest.main()

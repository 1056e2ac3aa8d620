"""Points 24 and 25, and the interface's heading topiary/judge.py."""

import copy
import itertools
import random
import unittest

from topiary.errors import InvalidRows
from topiary.judge import judge_rows
from topiary.plain import is_document, is_name, is_text
from topiary.rows import Rows, rows_of, same_rows, tree_of
from trees import bushy, chain, small_trees, some_documents, wide

PARTS = ("names", "labels", "lasts", "fulls", "texts")
TREE = ("a", [("b", ["x"]), "y", ("b", []), ("a", ["z"])])
FAR = [-(10 ** 20), -1, 2 ** 31, 10 ** 20]


def lists_of(rows):
    return [list(getattr(rows, part)) for part in PARTS]


def changed(rows, **parts):
    """Rows that are like these in all but the parts that are named."""
    return Rows(*[parts.get(part, getattr(rows, part)) for part in PARTS])


def steps_by_the_words(labels, lasts, fulls):
    """In how many steps each row is reached, by looking for the rows of families again and again."""
    owners = [None] + sorted((row for row in range(len(labels)) if fulls[row]), key=lambda row: (labels[row], row))
    family = [sum(lasts[:row]) for row in range(len(labels))]
    found = {0: 1}
    grown = True
    while grown:
        grown = False
        for row in range(1, len(labels)):
            if row not in found and owners[family[row]] in found:
                found[row] = found[owners[family[row]]] + 1
                grown = True
    return found


def fault_by_the_words(rows):
    names, labels, lasts, fulls, texts = lists_of(rows)
    many = len(labels)
    if not many or len(lasts) != many or len(fulls) != many:
        return 0, "lengths"
    for wrong, reason in (
        ([row for row in range(many) if labels[row] not in range(len(names) + 1)], "label"),
        ([row for row in range(many) if lasts[row] not in (0, 1)], "last"),
        ([row for row in range(many) if fulls[row] not in ((0, 1) if labels[row] else (0,))], "full"),
        ([0] if labels[0] == 0 or lasts[0] == 0 else [], "root"),
        ([0] if lasts.count(1) != fulls.count(1) + 1 or lasts[-1] == 0 else [], "families"),
    ):
        if wrong:
            return min(wrong), reason
    steps = steps_by_the_words(labels, lasts, fulls)
    text_rows = [row for row in range(many) if labels[row] == 0]
    are_names = all(map(is_name, names)) and names == sorted(set(names))
    for wrong, reason in (
        ([row for row in range(many) if row not in steps], "reach"),
        ([0] if not are_names or set(range(1, len(names) + 1)) - set(labels) else [], "names"),
        ([0] if len(text_rows) != len(texts) else [], "texts"),
        ([row for row, text in zip(text_rows, texts) if not is_text(text)], "text"),
        ([row for row in text_rows if row - 1 in text_rows and lasts[row - 1] == 0], "beside"),
        ([0] if many > 5000 or max(steps.values()) > 60 else [], "large"),
    ):
        if wrong:
            return min(wrong), reason
    return None


class JudgeTest(unittest.TestCase):
    def check(self, rows, fault):
        before = copy.deepcopy(lists_of(rows))
        self.assertEqual(judge_rows(rows), fault)
        if fault is not None:
            with self.assertRaises(InvalidRows) as caught:
                tree_of(rows)
            self.assertEqual((caught.exception.row, caught.exception.reason), fault)
        self.assertEqual(lists_of(rows), before)


class FaultsTest(JudgeTest):
    def test_example(self):
        self.check(rows_of(TREE), None)
        self.check(Rows(["a"], [1, 1], [1, 1], [0, 1], []), (1, "reach"))
        self.check(Rows(["a"], [1, 0], [1, 1], [1, 0], []), (0, "texts"))

    def test_rows_of_documents_are_accepted(self):
        for tree in some_documents() + [wide(5000), bushy(5000), chain(60), chain(60, "x" * 200)]:
            self.check(rows_of(tree), None)

    def test_lengths(self):
        rows = rows_of(TREE)
        for part in ("lasts", "fulls"):
            for numbers in ([], getattr(rows, part)[:-1], getattr(rows, part) + [0], [0] * 100):
                self.check(changed(rows, **{part: numbers}), (0, "lengths"))
        for labels in ([], rows.labels[:-1], rows.labels + [1]):
            self.check(changed(rows, labels=labels), (0, "lengths"))
        self.check(Rows([], [], [], [], []), (0, "lengths"))
        self.check(Rows(["a"], [], [], [], ["x"]), (0, "lengths"))
        self.check(Rows([], [], [1], [0], []), (0, "lengths"))
        self.check(Rows(["A"], [-5, 9], [7], [7, 7], [""]), (0, "lengths"))

    def test_label(self):
        rows = rows_of(TREE)
        for row in range(7):
            for label in FAR + [3]:
                numbers = rows.labels[:row] + [label] + rows.labels[row + 1:]
                self.check(changed(rows, labels=numbers), (row, "label"))
                self.check(changed(rows, labels=numbers[:6] + [9]), (min(row, 6), "label"))
        self.check(changed(rows, names=["a"]), (1, "label"))
        self.check(Rows([], [1], [1], [0], []), (0, "label"))
        self.check(Rows(["a"], [1, 2], [5, 5], [5, 5], [""]), (1, "label"))

    def test_last(self):
        rows = rows_of(TREE)
        for row in range(7):
            for last in FAR + [2]:
                numbers = rows.lasts[:row] + [last] + rows.lasts[row + 1:]
                self.check(changed(rows, lasts=numbers), (row, "last"))
                self.check(changed(rows, lasts=numbers, fulls=[3] * 7), (row, "last"))
                self.check(changed(rows, lasts=numbers[:6] + [-1]), (min(row, 6), "last"))

    def test_full(self):
        rows = rows_of(TREE)
        for row in range(7):
            for full in FAR + [2]:
                numbers = rows.fulls[:row] + [full] + rows.fulls[row + 1:]
                self.check(changed(rows, fulls=numbers), (row, "full"))
                self.check(changed(rows, fulls=numbers[:6] + [2]), (min(row, 6), "full"))
        for row in (2, 5, 6):
            self.check(changed(rows, fulls=rows.fulls[:row] + [1] + rows.fulls[row + 1:]), (row, "full"))
        self.check(changed(rows, fulls=[1, 1, 1, 2, 1, 0, 0]), (2, "full"))
        self.check(Rows([], [0], [0], [1], ["x"]), (0, "full"))

    def test_root(self):
        self.check(Rows([], [0], [1], [0], ["x"]), (0, "root"))
        self.check(Rows(["a"], [1], [0], [0], []), (0, "root"))
        self.check(Rows(["a"], [0, 1], [1, 1], [0, 1], ["x"]), (0, "root"))
        self.check(Rows(["a"], [1, 1], [0, 1], [1, 0], []), (0, "root"))
        self.check(Rows(["a"], [1, 1], [0, 0], [1, 1], []), (0, "root"))

    def test_families(self):
        self.check(Rows(["a"], [1], [1], [1], []), (0, "families"))
        self.check(Rows(["a"], [1, 1], [1, 1], [0, 0], []), (0, "families"))
        self.check(Rows(["a"], [1, 1], [1, 1], [1, 1], []), (0, "families"))
        self.check(Rows(["a"], [1, 1], [1, 0], [0, 0], []), (0, "families"))
        self.check(Rows(["a"], [1, 1, 1], [1, 1, 0], [1, 0, 0], []), (0, "families"))
        self.check(Rows(["A"], [1, 1, 1], [1, 0, 0], [0, 1, 1], []), (0, "families"))

    def test_reach(self):
        self.check(Rows(["a", "b"], [1, 2], [1, 1], [0, 1], []), (1, "reach"))
        self.check(Rows(["a", "b"], [2, 1, 1], [1, 1, 1], [1, 1, 0], []), (1, "reach"))
        self.check(Rows(["a", "b"], [1, 1, 2, 2], [1, 1, 1, 1], [1, 0, 1, 1], []), (2, "reach"))
        # Two rows that are one another's only children.
        self.check(Rows(["a", "b"], [1, 1, 2, 1], [1, 1, 1, 1], [1, 0, 1, 1], []), (2, "reach"))
        self.check(Rows(["a", "b"], [1, 2, 1, 2], [1, 1, 1, 1], [0, 1, 1, 1], []), (1, "reach"))
        # What is not reached comes ahead of wrong names and texts, and of texts side by side.
        self.check(Rows(["B"], [1, 1, 0, 0], [1, 0, 0, 1], [0, 1, 0, 0], []), (1, "reach"))

    def test_names(self):
        rows = rows_of(TREE)
        wrong = (["b", "a"], ["a", "a"], ["b", "b"], ["a", ""], ["", "b"], ["A", "b"], ["a", "b1"], ["a", "a" * 13])
        for names in wrong:
            self.check(changed(rows, names=names), (0, "names"))
            self.check(changed(rows, names=names, texts=[]), (0, "names"))
        for names in (["a", "b", "c"], ["a", "b"] + ["c"] * 50, ["a", "b", "C"]):
            self.check(changed(rows, names=names), (0, "names"))
        self.check(changed(rows, names=["a", "c", "b"], labels=[1, 3, 0, 3, 1, 0, 0]), (0, "names"))
        self.check(changed(rows, names=["a", "b", "c"], labels=[1, 3, 0, 3, 1, 0, 0]), (0, "names"))
        self.check(changed(rows, names=["a", "abcdefghijkl"]), None)
        self.check(changed(rows, names=["ab", "abc"]), None)
        self.check(changed(rows, names=["abc", "ab"]), (0, "names"))

    def test_texts(self):
        rows = rows_of(TREE)
        for texts in ([], ["y", "z"], ["y", "z", "x", "w"], ["", "\t"], ["x"] * 100):
            self.check(changed(rows, texts=texts), (0, "texts"))
        self.check(Rows(["a"], [1], [1], [0], ["x"]), (0, "texts"))
        self.check(Rows(["a"], [1, 0, 0], [1, 0, 1], [1, 0, 0], ["x"]), (0, "texts"))

    def test_text(self):
        rows = rows_of(TREE)
        for wrong in ("", "x" * 201, "\t", "a\x7f", "\u20ac"):
            for number, row in enumerate((2, 5, 6)):
                texts = ["y", "z", "x"]
                texts[number] = wrong
                self.check(changed(rows, texts=texts), (row, "text"))
                texts[2] = ""
                self.check(changed(rows, texts=texts), (row, "text"))
        self.check(Rows(["a"], [1, 0, 0], [1, 0, 1], [1, 0, 0], ["x", ""]), (2, "text"))
        self.check(changed(rows, texts=["x" * 200, "\n", "~"]), None)

    def test_beside(self):
        self.check(Rows(["a"], [1, 0, 0], [1, 0, 1], [1, 0, 0], ["x", "y"]), (2, "beside"))
        self.check(Rows(["a"], [1, 0, 0, 0, 0], [1, 0, 0, 0, 1], [1, 0, 0, 0, 0], ["x"] * 4), (2, "beside"))
        self.check(Rows(["a"], [1, 0, 1, 0, 0], [1, 0, 0, 0, 1], [1, 0, 0, 0, 0], ["x"] * 3), (4, "beside"))
        # Texts of two families may stand side by side in rows.
        self.check(Rows(["a"], [1, 1, 1, 0, 0], [1, 0, 1, 1, 1], [1, 1, 1, 0, 0], ["x", "y"]), None)

    def test_large(self):
        wide_rows = rows_of(("a", [("a", [])] * 4999))
        self.check(wide_rows, None)
        self.check(Rows(["a"], [1] * 5001, [1] + [0] * 4999 + [1], [1] + [0] * 5000, []), (0, "large"))
        self.check(Rows(["a"], [1] * 20000, [1] + [0] * 19998 + [1], [1] + [0] * 19999, []), (0, "large"))
        for many in (59, 60, 61, 62, 3000):
            fault = None if many <= 60 else (0, "large")
            self.check(Rows(["a"], [1] * many, [1] * many, [1] * (many - 1) + [0], []), fault)
            labels = [1] * (many - 1) + [0]
            self.check(Rows(["a"], labels, [1] * many, [1] * (many - 1) + [0], ["x"]), fault)
        self.check(Rows(["a"], [1] * 60 + [0, 0], [1] * 60 + [0, 1], [1] * 60 + [0, 0], ["x", "x"]), (61, "beside"))


class AgainstTheWordsTest(JudgeTest):
    def test_lists_that_are_counted(self):
        """Accepted are just the rows of documents, among all lists of a few small numbers."""
        known = set()
        for many in range(1, 5):
            for tree in small_trees(many, ["a", "b"], "x"):
                known.add(repr(lists_of(rows_of(tree))))
        accepted = set()
        for many in range(1, 5):
            for labels in itertools.product(range(3), repeat=many):
                names = [["a"], ["b"], ["a", "b"]]
                for bits in itertools.product((0, 1), repeat=2 * many):
                    for words in names:
                        rows = Rows(words, labels, bits[:many], bits[many:], ["x"] * labels.count(0))
                        if judge_rows(rows) is None:
                            accepted.add(repr(lists_of(rows)))
        self.assertEqual(accepted, known)

    def check_both(self, rows):
        fault = fault_by_the_words(rows)
        self.check(rows, fault)
        if fault is None:
            tree = tree_of(rows)
            self.assertTrue(is_document(tree))
            self.assertTrue(same_rows(rows_of(tree), rows))
        return fault

    def test_lists_that_are_drawn(self):
        dice = random.Random(25)
        reasons = set()
        for _ in range(6000):
            many = dice.randrange(1, 9)
            labels = [dice.choice([1, 2])] + [dice.randrange(3) for _ in range(many - 1)]
            fulls = [int(label > 0 and dice.random() < 0.5) for label in labels]
            fulls[0] = int(many > 1)
            ends = dice.sample(range(1, many - 1), min(max(0, many - 2), max(0, sum(fulls) - 1)))
            lasts = [int(row in (0, many - 1) or row in ends) for row in range(many)]
            names = dice.choice([["a", "b"], ["a", "b"], ["a", "b"], ["b", "a"], ["a", "b", "c"], ["a", "B"]])
            texts = [dice.choice(["x", "yy", "x", "x", ""]) for _ in range(labels.count(0))]
            reasons.add((self.check_both(Rows(names, labels, lasts, fulls, texts)) or (0, None))[1])
        self.assertTrue({None, "families", "reach", "names", "text", "beside"} <= reasons)

    def test_rows_that_are_changed(self):
        dice = random.Random(24)
        documents = [rows_of(tree) for tree in some_documents()]
        for _ in range(3000):
            lists = lists_of(dice.choice(documents))
            for _ in range(dice.randrange(1, 4)):
                part = dice.randrange(5)
                items = ["a", "b", "x", "", "ab", "Z"] if part in (0, 4) else [0, 1, 0, 1, 0, 1, 2, 3, -1]
                place = dice.randrange(len(lists[part]) + 1)
                lists[part][place:place + dice.choice([1, 1, 1, 0, 2])] = [dice.choice(items)]
            self.check_both(Rows(*lists))

    def test_rows_that_are_exchanged(self):
        dice = random.Random(23)
        documents = [rows_of(tree) for tree in some_documents()]
        for _ in range(2000):
            lists = lists_of(dice.choice(documents))
            part = dice.choice([1, 2, 3])
            first, second = (dice.randrange(len(lists[part])) for _ in range(2))
            lists[part][first], lists[part][second] = lists[part][second], lists[part][first]
            self.check_both(Rows(*lists))


if __name__ == "__main__":
    unittest.main()

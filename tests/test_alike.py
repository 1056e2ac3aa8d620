"""Points 34 to 39, and the interface's heading topiary/alike.py."""

import copy
import itertools
import random
import string
import unittest

from topiary.alike import accepts_paper, compare, compare_within, members, places_after, takes
from topiary.errors import FilteredQuestion
from topiary.meaning import nodes
from topiary.questions import read_question
from trees import laid_out, small_trees, some_documents

TEXTS = [
    "/a", "//a", "/*", "//*", "/#", "//#", "/a/b", "/a//b", "//a/b", "//a//b", "//a/*", "//*/a", "//*//*", "/*/*",
    "/a/#",
    "//a//#", "//*/#", "/*//#", "//#/a", "//#//*", "/a/a/a", "//a//a", "//a/*/b", "//*//a//*", "/zz", "//b//*/#",
]
QUESTIONS = [read_question(text) for text in TEXTS]
STEP = ("child", "a", [])
FILTERED = [
    [], [STEP] * 13, [("child", "A", [])], [("side", "a", [])], [("child", "a", [("place", 1)])],
    [STEP, ("below", "a", [("holds", "x")])], [("child", "a", [("has", [STEP])])], [("below", "a", [("place", 1)])],
]


def passes(member, test):
    return test == "#" if member == "#" else test in ("*", member)


def takes_by_the_words(question, chain):
    """Each way in which the steps meet members of the chain."""
    for met in itertools.combinations(range(len(chain)), len(question)):
        ahead = -1
        for (axis, test, _), at in zip(question, met):
            if not passes(chain[at], test) or (axis == "child" and at != ahead + 1):
                break
            ahead = at
        else:
            if ahead == len(chain) - 1:
                return True
    return False


def all_chains(names, length):
    """All chains of at most so many members, by length and then in order."""
    for many in range(1, length + 1):
        for chain in itertools.product(["#", *names], repeat=many):
            if "#" not in chain[:-1] and chain[0] != "#":
                yield list(chain)


def chain_of(tree, node):
    rows = laid_out(tree)
    chain = []
    while node is not None:
        chain.append("#" if isinstance(rows[node][0], str) else rows[node][0][0])
        node = rows[node][1]
    return chain[::-1]


def behind_by_the_words(question, places, member):
    found = set()
    for k in places:
        if k < len(question):
            axis, test, _ = question[k]
            found |= ({k + 1} if passes(member, test) else set()) | ({k} if axis == "below" else set())
    return sorted(found)


def accepted_by_the_words(first, second, paper, within):
    for one, two in paper:
        for numbers, question in ((one, first), (two, second)):
            if sorted(set(numbers)) != numbers or any(k not in range(len(question) + 1) for k in numbers):
                return False
    told = members(first, second)
    asked = [(([0], [0]), member) for member in told if member != "#"]
    for pair, member in asked + [(pair, member) for pair in paper for member in told]:
        one, two = behind_by_the_words(first, pair[0], member), behind_by_the_words(second, pair[1], member)
        taken = (len(first) in one, len(second) in two)
        if taken not in ([(0, 0), (1, 1), (0, 1)] if within else [(0, 0), (1, 1)]):
            return False
        if member != "#" and (one, two) not in paper:
            return False
    return True


def drawn_chain_question(dice, names, most):
    steps = range(dice.randrange(1, most + 1))
    return [(dice.choice(["child", "below"]), dice.choice([*names, "*", "*", "#"]), []) for _ in steps]


class ChainsTest(unittest.TestCase):
    def test_example(self):
        one, two = read_question("//a//b"), read_question("//a/b")
        self.assertEqual((takes(one, ["a", "c", "b"]), takes(two, ["a", "c", "b"])), (True, False))

    def test_takes_by_hand(self):
        for text, taken, others in (
            ("/a", ["a"], ["b", "aa", "a#"]), ("//a", ["a", "ba", "aa"], ["b", "ab", "a#"]),
            ("/*/#", ["a#", "b#"], ["a", "ab", "aa#"]), ("//#", ["a#", "ab#"], ["a", "ab"]),
            ("/a//b/*", ["abb", "abc", "acbb", "ababa"], ["ab", "aab", "abcd", "bbb", "ab#"]),
            ("//#/a", [], ["a", "a#", "aa"]), ("//*", ["a", "ab"], ["a#", "ab#"]),
        ):
            question = read_question(text)
            for chain in taken:
                self.assertIs(takes(question, list(chain)), True, (text, chain))
            for chain in others:
                self.assertIs(takes(question, list(chain)), False, (text, chain))
        self.assertIs(takes(read_question("/ab//abc"), ["ab", "x", "abc"]), True)
        self.assertIs(takes(read_question("/ab"), ["a", "b"]), False)

    def test_takes_by_the_words(self):
        for question in QUESTIONS:
            for chain in all_chains(["a", "b", "c"], 5):
                before = list(chain)
                self.assertIs(takes(question, chain), takes_by_the_words(question, chain), (question, chain))
                self.assertEqual(chain, before)

    def test_long_chains_and_questions(self):
        question = read_question("/a" * 12)
        self.assertIs(takes(question, ["a"] * 12), True)
        self.assertIs(takes(question, ["a"] * 11), False)
        self.assertIs(takes(question, ["a"] * 13), False)
        self.assertIs(takes(question, ["a"] * 12 + ["#"]), False)
        self.assertIs(takes(read_question("//a/#"), ["b"] * 98 + ["a", "#"]), True)
        self.assertIs(takes(read_question("//a//a/b"), ["c", "a"] * 50 + ["b"]), True)

    def test_takes_and_nodes_of_documents(self):
        for tree in [*some_documents(), *small_trees(4, ["a", "b"], "x")]:
            chains = [chain_of(tree, node) for node in range(len(laid_out(tree)))]
            for question in QUESTIONS:
                taken = [node for node, chain in enumerate(chains) if takes(question, chain)]
                self.assertEqual(taken, nodes(tree, question))

    def test_places_after_by_hand(self):
        question = read_question("/a//b/#")
        self.assertEqual(places_after(question, [0], "a"), [1])
        self.assertEqual(places_after(question, [0], "b"), [])
        self.assertEqual(places_after(question, [1], "b"), [1, 2])
        self.assertEqual(places_after(question, [1, 2], "c"), [1])
        self.assertEqual(places_after(question, [1, 2], "#"), [1, 3])
        self.assertEqual(places_after(question, [3], "#"), [])
        self.assertEqual(places_after(question, [], "a"), [])
        self.assertEqual(places_after(read_question("//*"), [0, 1], "zz"), [0, 1])

    def test_places_after_by_the_words(self):
        for question in QUESTIONS:
            numbers = range(len(question) + 1)
            for many in range(len(question) + 2):
                for places in itertools.combinations(numbers, many):
                    for member in ("#", "a", "b", "zz", "q"):
                        passed = list(places)
                        found = places_after(question, passed, member)
                        self.assertEqual(found, behind_by_the_words(question, places, member))
                        self.assertEqual(passed, list(places))

    def test_takes_is_told_by_the_places(self):
        for question in QUESTIONS:
            for chain in all_chains(["a", "b"], 4):
                places = [0]
                for member in chain:
                    places = places_after(question, places, member)
                self.assertIs(takes(question, chain), len(question) in places)


class MembersTest(unittest.TestCase):
    def check(self, one, two, expected):
        self.assertEqual(members(read_question(one), read_question(two)), expected)

    def test_members(self):
        self.check("/*", "//*", ["#", "a"])
        self.check("/#", "//#", ["#", "a"])
        self.check("/b", "/b", ["#", "a", "b"])
        self.check("/b/#", "/*/d", ["#", "a", "b", "d"])
        self.check("/a", "/*", ["#", "a", "b"])
        self.check("/*", "/a", ["#", "a", "b"])
        self.check("/a/b", "/d/e", ["#", "a", "b", "c", "d", "e"])
        self.check("/b/a", "/c/zz", ["#", "a", "b", "c", "d", "zz"])
        self.check("/aa", "/ab", ["#", "a", "aa", "ab"])
        self.check("/b/ab", "/aa/a", ["#", "a", "aa", "ab", "b", "c"])

    def test_as_many_letters_as_may_be(self):
        letters = string.ascii_lowercase
        one, two = "/" + "/".join(letters[:12]), "/" + "/".join(letters[12:24])
        self.check(one, two, ["#", *letters[:25]])
        self.check(two, one, ["#", *letters[:25]])
        self.check("/" + "/".join(letters[2:14]), "/" + "/".join(letters[14:]), ["#", "a", *letters[2:]])

    def test_what_is_returned_is_new(self):
        one = read_question("/b")
        found = members(one, one)
        found.clear()
        self.assertEqual(members(one, one), ["#", "a", "b"])


class CompareTest(unittest.TestCase):
    def check(self, one, two, length):
        """Compare with going through all chains up to a length."""
        told = [member for member in members(one, two) if member != "#"]
        differing = outside = None
        for chain in all_chains(told, length):
            taken = takes_by_the_words(one, chain), takes_by_the_words(two, chain)
            if taken[0] != taken[1]:
                differing = differing or chain
            if taken == (True, False):
                outside = outside or chain
                break
        self.check_one(one, two, compare(one, two), ("alike", "apart"), differing, length)
        self.check_one(one, two, compare_within(one, two), ("within", "outside"), outside, length)

    def check_one(self, one, two, found, words, chain, length):
        kind, shown = found
        self.assertIn(kind, words)
        within = words[0] == "within"
        if kind == words[1]:
            self.assertEqual(takes(one, shown), not takes(two, shown))
            self.assertTrue(takes(one, shown) or not within)
            if chain is None:
                self.assertGreater(len(shown), length)
            else:
                self.assertEqual(shown, chain)
        else:
            self.assertIsNone(chain)
            self.assertIs(accepts_paper(one, two, shown, within), True)
            self.assertTrue(accepted_by_the_words(one, two, shown, within))
            self.assertEqual(shown, self.pairs_in_order(one, two))

    def pairs_in_order(self, one, two):
        told = members(one, two)
        paper = []
        for at in itertools.count():
            if at > len(paper):
                return paper
            first, second = paper[at - 1] if at else ([0], [0])
            for member in told[1:]:
                pair = behind_by_the_words(one, first, member), behind_by_the_words(two, second, member)
                if pair not in paper:
                    paper.append(pair)

    def test_example(self):
        one, two = read_question("//a//b"), read_question("//a/b")
        self.assertEqual(compare(one, two), ("apart", ["a", "b", "b"]))
        self.assertEqual(compare_within(two, one)[0], "within")
        paper = compare(one, read_question("//a//b"))[1]
        self.assertIs(accepts_paper(one, one, paper), True)

    def test_papers_by_hand(self):
        one = read_question("/a")
        self.assertEqual(compare(one, one), ("alike", [([1], [1]), ([], [])]))
        one, two = read_question("//*"), read_question("//*//*")
        self.assertEqual(compare(one, two), ("apart", ["a"]))
        self.assertEqual(compare_within(one, two), ("outside", ["a"]))
        paper = [([0, 1], [0, 1]), ([0, 1], [0, 1, 2])]
        self.assertEqual(compare_within(two, one), ("within", [(second, first) for first, second in paper]))
        # Behind one member more the places are those that there are behind no member at all.
        one = read_question("//#")
        self.assertEqual(compare(one, one), ("alike", [([0], [0])]))

    def test_alike_though_written_otherwise(self):
        for one, two in (
            ("//*//*", "//*/*"), ("//*//*", "/*//*"), ("//#/a", "//#//b/c"), ("//#", "//*/#"), ("//#", "/*//#"),
            ("/#", "//#/*"), ("//*//#", "//#"), ("//a//*//*", "//a//*/*"), ("//a/*//b", "//a//*/b"),
        ):
            one, two = read_question(one), read_question(two)
            self.assertEqual(compare(one, two)[0], "alike")
            self.assertEqual(compare_within(one, two)[0], "within")
            self.assertEqual(compare_within(two, one)[0], "within")
            self.check(one, two, 4)

    def test_all_pairs(self):
        for one in QUESTIONS:
            for two in QUESTIONS:
                before = copy.deepcopy((one, two))
                self.check(one, two, 3)
                self.assertEqual((one, two), before)

    def test_drawn_pairs(self):
        dice = random.Random(39)
        for _ in range(150):
            most = dice.choice([2, 3, 3, 4])
            self.check(drawn_chain_question(dice, "ab", most), drawn_chain_question(dice, "ab", most), 5)

    def test_a_question_with_itself(self):
        dice = random.Random(38)
        for _ in range(100):
            question = drawn_chain_question(dice, ["a", "b", "zz"], 6)
            kind, paper = compare(question, question)
            self.assertEqual(kind, "alike")
            self.assertEqual(paper, self.pairs_in_order(question, question))
            self.assertTrue(all(one == two for one, two in paper))
            self.assertEqual(compare_within(question, question), ("within", paper))

    def test_longest_questions(self):
        one, two = read_question("//a" + "/*" * 11), read_question("//*" * 12)
        kind, paper = compare(one, one)
        self.assertEqual((kind, len(paper)), ("alike", 4096))
        self.assertIs(accepts_paper(one, one, paper), True)
        self.assertEqual(compare_within(one, two)[0], "within")
        self.assertEqual(compare(one, two), ("apart", ["b"] + ["a"] * 11))
        self.assertEqual(compare(read_question("/a" * 12), read_question("/a" * 11)), ("apart", ["a"] * 11))
        self.assertEqual(compare(read_question("/a" * 12), read_question("/a" * 11 + "/#")),
            ("apart", ["a"] * 11 + ["#"]))

    def test_what_is_returned_is_new(self):
        one = read_question("//a")
        compare(one, one)[1].clear()
        self.assertEqual(compare(one, one), ("alike", [([0, 1], [0, 1]), ([0], [0])]))
        compare(one, one)[1][0][0].clear()
        self.assertEqual(compare(one, one), ("alike", [([0, 1], [0, 1]), ([0], [0])]))


class PapersTest(unittest.TestCase):
    def check(self, one, two, paper, within):
        before = copy.deepcopy(paper)
        expected = accepted_by_the_words(one, two, paper, within)
        self.assertIs(accepts_paper(one, two, paper, within), expected, (one, two, paper, within))
        self.assertIs(accepts_paper(one, two, paper, within=within), expected)
        if not within:
            self.assertIs(accepts_paper(one, two, paper), expected)
        self.assertEqual(paper, before)
        return expected

    def some_papers(self):
        for one in QUESTIONS:
            for two in QUESTIONS:
                for within, found in ((False, compare(one, two)), (True, compare_within(one, two))):
                    if found[0] in ("alike", "within"):
                        yield one, two, found[1], within

    def test_papers_that_comparing_returns(self):
        many = 0
        for one, two, paper, within in self.some_papers():
            self.assertTrue(self.check(one, two, paper, within))
            many += 1
            if not within:
                self.assertTrue(self.check(one, two, paper, True))
        self.assertGreater(many, 100)

    def test_a_pair_left_out(self):
        for one, two, paper, within in self.some_papers():
            for at in range(len(paper)):
                self.assertFalse(self.check(one, two, paper[:at] + paper[at + 1:], within))

    def test_other_orders_and_pairs_twice(self):
        for one, two, paper, within in self.some_papers():
            self.assertTrue(self.check(one, two, paper[::-1], within))
            self.assertTrue(self.check(one, two, paper + paper[:1], within))

    def test_a_pair_put_in(self):
        dice = random.Random(37)
        accepted = 0
        for one, two, paper, within in self.some_papers():
            for _ in range(6):
                pair = tuple(sorted(dice.sample(range(len(q) + 1), dice.randrange(len(q) + 2))) for q in (one, two))
                at = dice.randrange(len(paper) + 1)
                accepted += self.check(one, two, paper[:at] + [pair] + paper[at:], within)
        self.assertGreater(accepted, 50)

    def test_a_place_more_or_less(self):
        for one, two, paper, within in self.some_papers():
            for at, pair in enumerate(paper):
                for side in (0, 1):
                    numbers = pair[side]
                    others = [numbers[:k] + numbers[k + 1:] for k in range(len(numbers))]
                    others += [sorted([*numbers, k]) for k in range(len([one, two][side]) + 1) if k not in numbers]
                    for other in others:
                        changed = (other, pair[1]) if side == 0 else (pair[0], other)
                        self.check(one, two, paper[:at] + [changed] + paper[at + 1:], within)

    def test_lists_that_are_no_places(self):
        one = read_question("//a//b")
        for within in (False, True):
            paper = compare(one, one)[1]
            self.assertTrue(self.check(one, one, paper, within))
            for other in ([3], [-1], [-3, 0], [0, 3], [10 ** 30], [1, 0], [0, 0], [0, 1, 1], [2, 1, 0], [-1, 0, 1]):
                for pair in ((other, [0]), ([0], other), (other, other)):
                    self.assertFalse(self.check(one, one, paper + [pair], within))
                    self.assertFalse(self.check(one, one, [pair] + paper, within))

    def test_the_empty_paper(self):
        for one in QUESTIONS:
            self.assertFalse(self.check(one, one, [], False))
            self.assertFalse(self.check(one, one, [], True))

    def test_papers_for_other_questions(self):
        papers = [paper for _, _, paper, _ in self.some_papers()][::7]
        for one in QUESTIONS[::2]:
            for two in QUESTIONS[::3]:
                for paper in papers:
                    for within in (False, True):
                        if self.check(one, two, paper, within):
                            found = compare_within(one, two) if within else compare(one, two)
                            self.assertIn(found[0], ("within", "alike"))

    def test_taking_is_looked_at_behind_the_text_too(self):
        one, two = read_question("//*/#"), read_question("//*/*")
        paper = [([0, 1], [0, 1]), ([0, 1], [0, 1, 2]), ([0], [0])]
        self.assertFalse(self.check(one, two, paper, False))
        self.assertFalse(self.check(one, two, paper, True))
        one, two = read_question("/a/b"), read_question("/a/#")
        self.assertFalse(self.check(one, two, [([1], [1]), ([], []), ([2], [])], True))


class FilteredTest(unittest.TestCase):
    def check(self, number, function, *arguments):
        with self.assertRaises(FilteredQuestion) as caught:
            function(*arguments)
        self.assertEqual(caught.exception.number, number)

    def test_the_first_question_that_is_improper_or_has_a_filter(self):
        plain = read_question("//a")
        for wrong in FILTERED:
            for one, two, number in ((wrong, plain, 0), (plain, wrong, 1), (wrong, wrong, 0)):
                self.check(number, members, one, two)
                self.check(number, compare, one, two)
                self.check(number, compare_within, one, two)
                for paper in ([], [([9], [9])]):
                    self.check(number, accepts_paper, one, two, paper)
                    self.check(number, accepts_paper, one, two, paper, True)
            self.check(0, takes, wrong, ["a"])
            self.check(0, places_after, wrong, [0], "a")


if __name__ == "__main__":
    unittest.main()

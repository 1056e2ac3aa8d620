"""Points 29, 32 and 33, and the interface's heading topiary/questions.py."""

import copy
import random
import unittest

from topiary.errors import InvalidQuestion
from topiary.questions import is_proper, read_question, write_question

ALL_SIGNS = "\n" + "".join(map(chr, range(32, 127)))
OTHER_SIGNS = "\x00\t\r\x1f\x7f\x80\u00a0\u00e9\u2028\u20ac\U0001f600"
EXAMPLE = [("child", "a", []), ("below", "b", [("has", [("child", "c", [])])]), ("child", "#", [("holds", "x")])]
STEP = ("child", "a", [])
PIECES = ["/", "//", "a", "b", "*", "#", "[", "]", "[1]", "[/a]", '["x"]', "1", '"', "\\", "\\n", " ", "\n", "A"]


def with_filter(*filters):
    return [("child", "a", list(filters))]


def nested(deep):
    """A question in which questions are nested so deep, itself counted."""
    question = [STEP]
    for _ in range(deep - 1):
        question = with_filter(("has", question))
    return question


def drawn(dice, steps, deep):
    """A proper question of at most so many steps, nested at most so deep, and how many steps it has."""
    question = []
    many = 0
    while many < steps and (not question or dice.random() < 0.5):
        axis = dice.choice(["child", "below"])
        many += 1
        filters = []
        for _ in range(dice.choice([0, 0, 1, 1, 2, 3])):
            kind = dice.choice(["place", "has", "holds"])
            if kind == "place" and axis == "child":
                filters.append((kind, dice.choice([1, 2, 9, 10, 100, 4999, 5000])))
            elif kind == "has" and deep > 1 and many < steps:
                inner, more = drawn(dice, min(4, steps - many), deep - 1)
                many += more
                filters.append((kind, inner))
            elif kind == "holds":
                signs = dice.choice(["ab", ALL_SIGNS, '"\\\n', "n]/[1"])
                filters.append((kind, "".join(dice.choice(signs) for _ in range(dice.choice([1, 2, 5, 39, 40])))))
        question.append((axis, dice.choice(["a", "bc", "*", "#", "abcdefghijkl"]), filters))
    return question, many


class ProperTest(unittest.TestCase):
    def check(self, question, expected):
        before = copy.deepcopy(question)
        self.assertIs(is_proper(question), expected)
        self.assertEqual(question, before)

    def test_example(self):
        self.check(EXAMPLE, True)

    def test_numbers_of_steps(self):
        self.check([], False)
        self.check([STEP], True)
        self.check([STEP] * 12, True)
        self.check([STEP] * 13, False)
        self.check([STEP] * 100000, False)
        self.check([STEP] * 11 + with_filter(), True)
        self.check([STEP] * 10 + with_filter(("has", [STEP])), True)
        self.check([STEP] * 11 + with_filter(("has", [STEP])), False)
        self.check(with_filter(("has", [STEP] * 11)), True)
        self.check(with_filter(("has", [STEP] * 12)), False)
        self.check(with_filter(("has", [STEP] * 6), ("has", [STEP] * 5)), True)
        self.check(with_filter(("has", [STEP] * 6), ("has", [STEP] * 6)), False)
        self.check(with_filter(("has", with_filter(("has", [STEP] * 10)))), True)
        self.check(with_filter(("has", with_filter(("has", [STEP] * 11)))), False)
        self.check(with_filter(*[("has", [STEP])] * 11), True)
        self.check(with_filter(*[("has", [STEP])] * 12), False)

    def test_questions_without_steps_in_filters(self):
        self.check(with_filter(("has", [])), False)
        self.check([STEP, ("below", "a", [("has", with_filter(("has", [])))])], False)

    def test_nesting(self):
        for deep in (1, 2, 3):
            self.check(nested(deep), True)
        for deep in (4, 5, 12, 50):
            self.check(nested(deep), False)
        self.assertIs(is_proper(nested(100000)), False)
        self.check(with_filter(("has", [STEP]), ("has", nested(3))), False)
        self.check(with_filter(("has", [STEP]), ("has", nested(2)), ("has", nested(2))), True)

    def test_axes(self):
        for axis in ("child", "below"):
            self.check([(axis, "a", [])], True)
        for axis in ("", "Child", "children", "beneath", "/", "//", "parent", "*"):
            self.check([(axis, "a", [])], False)
            self.check([STEP, (axis, "a", [])], False)
            self.check(with_filter(("has", [(axis, "a", [])])), False)

    def test_tests(self):
        for test in ("a", "z", "abcdefghijkl", "*", "#"):
            self.check([("child", test, [])], True)
            self.check([("below", test, [])], True)
        for test in ("", "A", "abcdefghijklm", "a1", "a b", "**", "##", "*a", "a*", "#a", "-", "\u00e9", "a\n", "[1]"):
            for axis in ("child", "below"):
                self.check([(axis, test, [])], False)
                self.check(with_filter(("has", [STEP, (axis, test, [])])), False)

    def test_kinds_of_filters(self):
        for kind, value in (("", 1), ("Place", 1), ("hold", "x"), ("hasnt", [STEP]), ("contains", "x"), ("1", 1)):
            self.check(with_filter((kind, value)), False)
            self.check(with_filter(("place", 1), (kind, value)), False)
            self.check(with_filter(("has", with_filter((kind, value)))), False)

    def test_places(self):
        for k in (1, 2, 4999, 5000):
            self.check(with_filter(("place", k)), True)
            self.check(with_filter(("place", k), ("place", 1)), True)
            self.check([("below", "a", [("place", k)])], False)
            self.check([("below", "a", [("holds", "x"), ("place", k)])], False)
            self.check(with_filter(("has", [("below", "a", [("place", k)])])), False)
        for k in (0, 5001, -1, -5000, 10 ** 20):
            self.check(with_filter(("place", k)), False)
            self.check(with_filter(("place", 1), ("place", k)), False)
            self.check(with_filter(("has", with_filter(("place", k)))), False)

    def test_strings(self):
        for many in (1, 2, 39, 40):
            for sign in "x\n ~\"\\":
                self.check(with_filter(("holds", sign * many)), True)
                self.check([("below", "#", [("holds", sign * many)])], True)
        for string in ("", "x" * 41, "x" * 1000):
            self.check(with_filter(("holds", string)), False)
            self.check(with_filter(("has", [("below", "*", [("holds", string)])])), False)
        for sign in OTHER_SIGNS:
            for string in (sign, "a" + sign, sign + "a", "x" * 39 + sign):
                self.check(with_filter(("holds", string)), False)
        self.check(with_filter(*[("holds", ALL_SIGNS[k:k + 40]) for k in (0, 40, 80)]), True)

    def test_questions_that_are_drawn(self):
        dice = random.Random(29)
        for _ in range(300):
            question, many = drawn(dice, 12, 3)
            self.assertTrue(is_proper(question))
            self.assertTrue(is_proper(question + [STEP] * (12 - many)))
            self.assertFalse(is_proper(question + [STEP] * (13 - many)))


class WritingTest(unittest.TestCase):
    def check(self, question, text):
        before = copy.deepcopy(question)
        self.assertEqual(write_question(question), text)
        self.assertEqual(question, before)
        self.assertEqual(read_question(text), question)

    def test_example(self):
        self.check(EXAMPLE, '/a//b[/c]/#["x"]')
        with self.assertRaises(InvalidQuestion):
            read_question("/a//b[2]")

    def test_steps(self):
        self.check([("child", "a", [])], "/a")
        self.check([("below", "*", [])], "//*")
        self.check([("below", "#", []), ("child", "abcdefghijkl", []), ("child", "*", [])], "//#/abcdefghijkl/*")
        self.check([STEP] * 12, "/a" * 12)

    def test_filters(self):
        self.check(with_filter(("place", 1)), "/a[1]")
        self.check(with_filter(("place", 5000), ("place", 10)), "/a[5000][10]")
        self.check(with_filter(("holds", "x y")), '/a["x y"]')
        self.check(with_filter(("holds", "1"), ("place", 1), ("has", [STEP])), '/a["1"][1][/a]')
        self.check(with_filter(("has", [("below", "b", [("has", [STEP])]), STEP])), "/a[//b[/a]/a]")
        self.check(nested(3), "/a[/a[/a]]")
        self.check(with_filter(("has", [STEP] * 11)), "/a[" + "/a" * 11 + "]")

    def test_strings(self):
        self.check(with_filter(("holds", '"')), '/a["\\""]')
        self.check(with_filter(("holds", "\\")), '/a["\\\\"]')
        self.check(with_filter(("holds", "\n")), '/a["\\n"]')
        self.check(with_filter(("holds", "\\n")), '/a["\\\\n"]')
        self.check(with_filter(("holds", '\\"\n"\\')), '/a["\\\\\\"\\n\\"\\\\"]')
        self.check(with_filter(("holds", "]/[1]")), '/a["]/[1]"]')
        self.check(with_filter(("holds", '"' * 40)), '/a["' + '\\"' * 40 + '"]')
        for sign in ALL_SIGNS[1:]:
            if sign not in '"\\':
                self.check(with_filter(("holds", sign * 3)), f'/a["{sign * 3}"]')

    def test_questions_that_are_drawn(self):
        dice = random.Random(32)
        for _ in range(1000):
            question, _ = drawn(dice, 12, 3)
            text = write_question(question)
            self.assertEqual(read_question(text), question)
            self.assertEqual(write_question(read_question(text)), text)


class ReadingTest(unittest.TestCase):
    def check(self, text, column, reason):
        with self.assertRaises(InvalidQuestion) as caught:
            read_question(text)
        self.assertEqual((caught.exception.column, caught.exception.reason), (column, reason), text)

    def test_step(self):
        for text in ("", "a", " /a", "[1]", "*", "#", "]", '"x"', "\\", "\n"):
            self.check(text, 1, "step")

    def test_test(self):
        for behind in ("", "A", "1", "[1]", " a", "-", "]", '"x"', "\u00e9", "\n"):
            self.check("/" + behind, 2, "test")
            self.check("//" + behind, 3, "test")
            self.check("/a/" + behind, 4, "test")
            self.check("/a[//" + behind, 6, "test")
        self.check("///a", 3, "test")
        for behind in ("", "/a", "[1]", "n", "A"):
            self.check("/abcdefghijklm" + behind, 2, "test")
            self.check("//a[/" + "z" * 13 + behind, 6, "test")
        self.assertEqual(read_question("/abcdefghijkl"), [("child", "abcdefghijkl", [])])

    def test_filter(self):
        for behind in ("", "]", "0", "01]", "a]", " 1]", "-1]", "[1]]", "*", "#", "\\", "\u0661"):
            self.check("/a[" + behind, 4, "filter")
            self.check("//*[" + behind, 5, "filter")
            self.check("/a[/b[" + behind, 7, "filter")
            self.check("/a[1][" + behind, 7, "filter")

    def test_number(self):
        for number in ("5001", "9999", "10000", "50000", "9" * 40, "1" + "0" * 6000):
            for behind in ("", "]", "x"):
                self.check(f"/a[{number}{behind}", 4, "number")
                self.check(f"//a/b[2][{number}{behind}", 10, "number")
        for number in ("1", "5000", "5001", "10", "9" * 6000):
            for behind in ("", "]", "x"):
                self.check(f"//a[{number}{behind}", 5, "number")
                self.check(f'/a//a["x"][{number}{behind}', 12, "number")
                self.check(f"/a[//a[{number}{behind}", 8, "number")
        for number in (1, 9, 10, 4999, 5000):
            self.assertEqual(read_question(f"/a[{number}]"), with_filter(("place", number)))

    def test_sign(self):
        for sign in OTHER_SIGNS + "\n":
            for behind in ("", '"]', "x"):
                self.check('/a["' + sign + behind, 5, "sign")
                self.check('/a["xy' + sign + behind, 7, "sign")
                self.check('//b[/a["\\n' + sign + behind, 11, "sign")
                self.check('/a["\\' + sign + behind, 6, "sign")
        for sign in "abNrt0'/ ]u":
            self.check('/a["\\' + sign + '"]', 6, "sign")
            self.check('/a["\\\\\\' + sign + '"]', 8, "sign")
        self.check('/a["' + "x" * 50 + '\t"]', 55, "sign")
        self.check('/a["' + "x" * 50 + '\\x"]', 56, "sign")

    def test_string(self):
        for text in ('"', '"x', '"x]', '"\\"', '"\\"]', '""', '""]', '"' + "x" * 41 + '"]', '"' + "x" * 41):
            self.check("/a[" + text, 4, "string")
            self.check("//a[/b[" + text, 8, "string")
        for text in ("\\", "x\\", "\\\\\\", '\\"\\', "x" * 39 + "\\", "x" * 50 + "\\"):
            self.check('/a["' + text, 4, "string")
            self.check('/a/e["x"]/a["' + text, 13, "string")
        self.check('/a["' + '\\"' * 41 + '"]', 4, "string")
        self.check('/a["' + "\\n" * 100 + '"]', 4, "string")
        self.assertEqual(read_question('/a["' + "\\n" * 40 + '"]'), with_filter(("holds", "\n" * 40)))

    def test_close(self):
        for behind in ("", "x", " ]", "[", "/b]", '"]', "-"):
            self.check("/a[1" + behind, 5, "close")
            self.check('/a["x"' + behind, 7, "close")
            self.check("//b[/a[12" + behind, 10, "close")
        for behind in ("", " ]", "A", '"', "1", "\n"):
            self.check("/a[/b" + behind, 6, "close")
            self.check("/a[/b[1]" + behind, 9, "close")
            self.check("/a[/b[/c]" + behind, 10, "close")

    def test_end(self):
        for behind in ("]", " ", "A", "1", '"x"', "\n", "\\", "-", "\u00e9"):
            self.check("/a" + behind, 3, "end")
            self.check("/a[1]" + behind, 6, "end")
            self.check("/a[/b]" + behind, 7, "end")
            self.check("//a/#" + behind, 6, "end")
        for behind in ("a", "*", "#"):
            self.check("/*" + behind, 3, "end")
            self.check("/#" + behind, 3, "end")
            self.check("/a[1]" + behind, 6, "end")
        self.check("/a*", 3, "end")

    def test_steps(self):
        self.assertEqual(len(read_question("/a" * 12)), 12)
        for behind in ("/a", "//a", "/", "/A", "//"):
            self.check("/a" * 12 + behind, 25, "steps")
            self.check("/a[" + "/a" * 11 + behind, 26, "steps")
            self.check("/a[/a[" + "/a" * 10 + behind, 27, "steps")
            self.check("/a" * 12 + "[" + behind, 26, "steps")
            self.check("/a[/b]" + "/a" * 10 + behind, 27, "steps")
        self.assertEqual(read_question("/a[" + "/a" * 11 + "]"), with_filter(("has", [STEP] * 11)))

    def test_deep(self):
        for behind in ("/a]", "//a", "/", "/A"):
            self.check("/a[/a[/a[" + behind, 10, "deep")
            self.check("/a[1][/a]/a[/b[//c[" + behind, 20, "deep")
        self.assertEqual(read_question("/a[/a[/a]]"), nested(3))

    def test_the_first_reason_at_one_place(self):
        self.check("/a" * 10 + "[/a[/a[/a", 28, "steps")
        self.check("/a" * 9 + "[/a[/a[/a", 26, "deep")
        self.check("/a" * 12 + "[/a", 26, "steps")
        self.check("//a[9999]", 5, "number")

    def test_the_first_of_several_errors(self):
        self.check("/a[0]/A", 4, "filter")
        self.check('/a["x\n' + "x" * 50, 6, "sign")
        self.check("/a b[0]", 3, "end")
        self.check("/A" * 13, 2, "test")
        self.check("/a[1x][0]", 5, "close")

    def test_texts_that_are_drawn(self):
        """What is read is written as it was, and what stands ahead of an error leads to no error earlier."""
        dice = random.Random(33)
        for _ in range(6000):
            pieces = [dice.choice(["/", "//a", "/a[", "/a"])] + dice.choices(PIECES, k=dice.randrange(9))
            text = "".join(pieces)
            try:
                question = read_question(text)
            except InvalidQuestion as error:
                self.assertTrue(1 <= error.column <= len(text) + 1)
                self.check_ahead(text[:error.column - 1])
            else:
                self.assertEqual(write_question(question), text)
                self.assertTrue(is_proper(question))

    def check_ahead(self, text):
        try:
            read_question(text)
        except InvalidQuestion as error:
            self.assertTrue(error.column == len(text) + 1 or error.reason == "string")

    def test_what_is_returned_is_new(self):
        read_question("/a[/b]")[0][2].append(("place", 7))
        self.assertEqual(read_question("/a[/b]"), with_filter(("has", [("child", "b", [])])))


if __name__ == "__main__":
    unittest.main()

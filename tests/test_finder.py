"""Points 14 and 15, and the interface's heading topiary/finder.py."""

import random
import unittest

from topiary.errors import InvalidPart, InvalidStep, InvalidText, UnknownText
from topiary.finder import Finder, row_of_texts
from topiary.turned import turn

ALL_SIGNS = "\n" + "".join(chr(code) for code in range(32, 127))
OTHER_SIGNS = ["\x00", "\x07", "\x08", "\t", "\r", "\x1f", "\x7f", "\x80", "\u00e9", "\u20ac", "\U0001f600"]


def where_by_looking(texts, string):
    pairs = []
    for number, text in enumerate(texts):
        for place in range(len(text) + 1):
            if text.startswith(string, place):
                pairs.append((number, place))
    return pairs


def some_texts():
    dice = random.Random(15)
    return [
        [],
        [""],
        ["", "", ""],
        ["a"],
        ["abab", "", "b a"],
        ["aaaaaaa", "aa", "", "aaa"],
        ["ab\ncd\n\n", "\n", "a\nb"],
        ["ab", "cd", "abc", "d"],
        ["same", "same", "same"],
        [ALL_SIGNS, ALL_SIGNS[::-1]],
        ["".join(dice.choice("ab") for _ in range(dice.randrange(9))) for _ in range(9)],
    ]


def some_strings(texts):
    dice = random.Random(14)
    strings = {"", "a", "b", "aa", "ab", "ba", "aba", "bc", "bcd", "abcd", "abab", "\n", "\n\n", "b\n", "~", " ", "zz"}
    for text in texts:
        start = dice.randrange(len(text) + 1)
        strings |= {text, text[start:], text[:start], text[start:start + 2], text + "a"}
    # Such strings stand only across the end of one text and the beginning of the next one.
    strings |= {one[-1:] + other[:1] for one, other in zip(texts, texts[1:])}
    strings |= {one + other for one, other in zip(texts, texts[1:])}
    return sorted(strings)


def some_steps(texts):
    many = sum(map(len, texts)) + len(texts)
    return sorted({1, 2, 3, 4, 5, 7, max(1, many - 1), max(1, many), many + 1, many + 10, 10**20})


class FinderTest(unittest.TestCase):
    def each_finder(self):
        for texts in some_texts():
            for step in some_steps(texts):
                yield texts, Finder(texts, step=step)

    def test_examples(self):
        finder = Finder(["abab", "", "b a"])
        told = (finder.times("ab"), finder.where("b"), finder.times(""), finder.holds(1, "a"))
        self.assertEqual(told, (2, [(0, 1), (0, 3), (2, 0)], 10, False))
        self.assertEqual((finder.text(2), finder.part(0, 1, 3), finder.length(1)), ("b a", "ba", 0))
        self.assertEqual(row_of_texts(["a", ""]), [89, 0, 0])

    def test_row_of_texts(self):
        self.assertEqual(row_of_texts([]), [])
        self.assertEqual(row_of_texts(["", ""]), [0, 0])
        self.assertEqual(row_of_texts(["\n ~", "", "0"]), [2, 24, 118, 0, 0, 40, 0])
        codes = [ord(sign) - 8 for sign in ALL_SIGNS]
        self.assertEqual(row_of_texts([ALL_SIGNS]), codes + [0])

    def test_times_and_where(self):
        for texts, finder in self.each_finder():
            for string in some_strings(texts):
                pairs = where_by_looking(texts, string)
                self.assertEqual(finder.where(string), pairs)
                self.assertEqual(finder.times(string), len(pairs))

    def test_the_empty_string_stands_at_every_place_up_to_the_length(self):
        for texts, finder in self.each_finder():
            pairs = [(number, place) for number, text in enumerate(texts) for place in range(len(text) + 1)]
            self.assertEqual((finder.where(""), finder.times("")), (pairs, len(pairs)))
            for number in range(len(texts)):
                self.assertIs(finder.holds(number, ""), True)

    def test_strings_with_other_characters_stand_nowhere(self):
        for texts, finder in self.each_finder():
            for sign in OTHER_SIGNS:
                for string in (sign, "a" + sign, sign + "a", sign + sign):
                    self.assertEqual((finder.times(string), finder.where(string)), (0, []))
                    for number in range(len(texts)):
                        self.assertIs(finder.holds(number, string), False)

    def test_holds(self):
        for texts, finder in self.each_finder():
            for string in some_strings(texts):
                for number, text in enumerate(texts):
                    self.assertIs(finder.holds(number, string), string in text)

    def test_text_length_and_total(self):
        for texts, finder in self.each_finder():
            self.assertEqual(finder.total, len(texts))
            self.assertEqual([finder.text(number) for number in range(len(texts))], texts)
            self.assertEqual([finder.length(number) for number in range(len(texts))], list(map(len, texts)))

    def test_each_part(self):
        for texts in some_texts():
            for step in (1, 3, 1000):
                finder = Finder(texts, step=step)
                for number, text in enumerate(texts):
                    for start in range(min(len(text), 20) + 1):
                        for end in range(start, min(len(text), 20) + 1):
                            self.assertEqual(finder.part(number, start, end), text[start:end])

    def test_turned_row(self):
        for texts, finder in self.each_finder():
            told = finder.turned()
            self.assertEqual(told, turn(row_of_texts(texts)))
            told.append(5)
            self.assertEqual(finder.turned(), told[:-1])

    def test_the_step_is_4_if_none_is_passed(self):
        self.assertEqual(vars(Finder(["abcdefgh"]))["_step"], 4)
        with self.assertRaises(TypeError):
            Finder(["a"], 4)

    def test_texts_are_not_kept(self):
        text = "a text that is kept nowhere"
        self.assertNotIn(text, str(vars(Finder([text]))))

    def test_invalid_text_tells_the_first_one(self):
        for sign in OTHER_SIGNS:
            wrong = [([sign], 0), (["a", "b" + sign], 1), (["", "x" + sign + "y", sign], 1)]
            wrong.append((["ok", "ok", sign + "a"], 2))
            for texts, number in wrong:
                for step in (4, 1, 0, -1):
                    with self.assertRaises(InvalidText) as caught:
                        Finder(texts, step=step)
                    self.assertEqual(caught.exception.number, number)

    def test_invalid_step(self):
        for texts in some_texts():
            for step in (0, -1, -(10**9)):
                with self.assertRaises(InvalidStep):
                    Finder(texts, step=step)

    def test_unknown_text_comes_ahead_of_invalid_part(self):
        for texts, finder in self.each_finder():
            for number in (-1, len(texts), len(texts) + 1, 10**9):
                calls = [(finder.text,), (finder.length,), (finder.part, 0, 0)]
                calls += [(finder.part, -1, 0), (finder.part, 1, 0), (finder.part, 0, 999)]
                for call, *rest in calls:
                    with self.assertRaises(UnknownText) as caught:
                        call(number, *rest)
                    self.assertEqual(caught.exception.number, number)

    def test_invalid_part(self):
        for texts, finder in self.each_finder():
            for number, text in enumerate(texts):
                many = len(text)
                wrong = [(-1, 0), (-1, many), (-2, -1), (1, 0), (many, many - 1), (0, many + 1), (many + 1, many + 1)]
                for start, end in wrong:
                    with self.assertRaises(InvalidPart):
                        finder.part(number, start, end)
                self.assertEqual((finder.part(number, 0, many), finder.part(number, many, many)), (text, ""))

    def test_no_text_that_there_is_not_holds_anything(self):
        finder = Finder(["a", "b"])
        told = [finder.holds(number, "a") for number in (-2, -1, 0, 1, 2)]
        self.assertEqual(told, [False, False, True, False, False])

    def test_the_list_of_texts_may_change(self):
        texts = ["abab", "", "b a"]
        finder = Finder(texts)
        texts[0] = "x"
        texts.append("y")
        self.assertEqual((finder.total, finder.text(0), finder.times("y"), finder.times("b")), (3, "abab", 0, 3))
        pairs = finder.where("b")
        pairs.append((9, 9))
        self.assertEqual(finder.where("b"), pairs[:-1])

    def test_the_texts_stay_as_they_were(self):
        for texts in some_texts():
            before = list(texts)
            Finder(texts)
            row_of_texts(texts)
            self.assertEqual(texts, before)

    def test_an_error_changes_nothing(self):
        finder = Finder(["abab", "c"])
        with self.assertRaises(UnknownText):
            finder.text(2)
        with self.assertRaises(InvalidPart):
            finder.part(0, 2, 1)
        self.assertEqual((finder.total, finder.text(0), finder.text(1)), (2, "abab", "c"))
        self.assertEqual(finder.where("b"), [(0, 1), (0, 3)])

    def test_long_texts(self):
        texts = ["ab" * 400, "b" * 300, "".join(ALL_SIGNS[k * k % 96] for k in range(700))]
        finder = Finder(texts)
        for string in ("ab", "ba" * 200, "b" * 299, "bb", texts[2][100:140], "nowhere"):
            self.assertEqual(finder.where(string), where_by_looking(texts, string))
        self.assertEqual([finder.text(number) for number in range(3)], texts)


if __name__ == "__main__":
    unittest.main()

"""Points 18 and 19, and the interface's headings topiary/reader.py and topiary/writer.py."""

import copy
import random
import re
import string
import unittest

from topiary.errors import TextError, TooLarge
from topiary.reader import read_document
from topiary.writer import write_document
from trees import EXAMPLE, bushy, chain, some_documents, wide

BAD_SIGNS = "\x00\x07\t\r\x0b\x1f\x7f\x80\u00a0\u00e9\u2028\u20ac\U0001f600"
ALL_SIGNS = "\n" + "".join(map(chr, range(32, 127)))
NAMES_OF_12 = ["abcdefghijkl", "zzzzzzzzzzzz"]
NAME_OF_13 = "abcdefghijklm"
PIECES = ["<a>", "</a>", "<b/>", "<ab>", "</ab>", "x", "&lt;", "&amp;", "&gt;", "<", ">", "/", "&", "\n", "\t", " "]


def nested(deep, inner):
    """The text of so many elements within one another, with a text within the innermost one."""
    return "<a>" * deep + inner + "</a>" * deep


class ReaderTest(unittest.TestCase):
    def check_error(self, text, line, column, reason):
        with self.assertRaises(TextError) as caught:
            read_document(text)
        found = caught.exception
        self.assertEqual((found.line, found.column, found.reason), (line, column, reason), text[-60:])

    def check_read(self, text, tree):
        self.assertEqual(read_document(text), tree)


class ReadingTest(ReaderTest):
    def test_example(self):
        text = "<a><b>1 &lt; 2</b>x<a/></a>"
        self.check_read(text, EXAMPLE)
        self.assertEqual(write_document(EXAMPLE), text)
        self.check_error("<a><b></a>", 1, 9, "end")

    def test_empty_elements(self):
        self.check_read("<a/>", ("a", []))
        self.check_read("<a></a>", ("a", []))
        self.check_read("<a><b></b><c/><d></d>x</a>", ("a", [("b", []), ("c", []), ("d", []), "x"]))
        self.assertEqual(write_document(read_document("<a><b></b></a>")), "<a><b/></a>")

    def test_texts(self):
        self.check_read("<a> </a>", ("a", [" "]))
        self.check_read("<a>\n\n</a>", ("a", ["\n\n"]))
        self.check_read("<a>/ \"'a b\\</a>", ("a", ["/ \"'a b\\"]))
        self.check_read("<a>&amp;lt;&amp;amp;</a>", ("a", ["&lt;&amp;"]))
        self.check_read("<a>&lt;&gt;&amp;;</a>", ("a", ["<>&;"]))
        self.check_read("<a>&lt;b/&gt;<b>&lt;</b>&gt;</a>", ("a", ["<b/>", ("b", ["<"]), ">"]))

    def test_reading_what_is_written(self):
        trees = some_documents() + [
            ("a", [ALL_SIGNS]), ("a", ["&lt;", ("b", ["&&amp;&gt;"]), "<b></b>"]), ("a", ["\n", ("b", [" \n "]), "\n"]),
            wide(5000), bushy(5000), ("a", [(name, ["x"]) for name in NAMES_OF_12 + list(string.ascii_lowercase)]),
            ("a", ["x" * 200, ("b", ["&" * 200]), "\n" * 200]),
        ]
        for tree in trees:
            text = write_document(tree)
            self.check_read(text, tree)
            self.assertEqual(write_document(read_document(text)), text)

    def test_at_the_limits(self):
        for name in NAMES_OF_12:
            self.check_read(f"<{name}><{name}/></{name}>", (name, [(name, [])]))
        for sign, written in (("x", "x"), ("<", "&lt;"), ("&", "&amp;"), (">", "&gt;"), ("\n", "\n")):
            text = "<a>" + written * 200 + "<b/>" + written * 200 + "</a>"
            self.check_read(text, ("a", [sign * 200, ("b", []), sign * 200]))
        self.check_read(nested(59, "<z/>"), chain(60))
        self.check_read(nested(59, "<z></z>"), chain(60))
        self.check_read(nested(59, "end"), chain(60, "end"))
        self.check_read("<a>" + "<b/>" * 4999 + "</a>", ("a", [("b", [])] * 4999))
        self.check_read("<a>" + "x<b/>" * 2499 + "x</a>", ("a", ["x", ("b", [])] * 2499 + ["x"]))

    def test_what_is_returned_is_new(self):
        one = read_document("<a><b>x</b></a>")
        one[1].append("y")
        one[1][0][1].append(("c", []))
        self.check_read("<a><b>x</b></a>", ("a", [("b", ["x"])]))


class WritingTest(unittest.TestCase):
    def test_a_text_alone(self):
        for text, written in (("x", "x"), ("a < b & c > d\n", "a &lt; b &amp; c &gt; d\n"), ("&lt;", "&amp;lt;")):
            self.assertEqual(write_document(text), written)

    def test_elements(self):
        self.assertEqual(write_document(("a", [])), "<a/>")
        self.assertEqual(write_document(("a", [("b", []), "x", ("c", [("d", ["y"])])])), "<a><b/>x<c><d>y</d></c></a>")
        self.assertEqual(write_document(("a", ["<&>", ("b", []), ">"])), "<a>&lt;&amp;&gt;<b/>&gt;</a>")

    def test_the_tree_stays_as_it_was(self):
        for tree in some_documents():
            before = copy.deepcopy(tree)
            write_document(tree)
            self.assertEqual(tree, before)

    def test_beyond_the_limits(self):
        self.assertEqual(write_document(chain(2000, "x")), "<a>" * 1999 + "x" + "</a>" * 1999)


class ReasonsTest(ReaderTest):
    def test_open_at_each_cut(self):
        for text in ("<a/>", "<a></a>", "<a><b>1 - 2</b>x<a/>\n</a>", "<ab>x\ny<abc></abc>\n\n<b/>z</ab>"):
            for cut in range(len(text)):
                lines = text[:cut].split("\n")
                self.check_error(text[:cut], len(lines), len(lines[-1]) + 1, "open")

    def test_open_and_nothing_else_at_the_end(self):
        self.check_error("", 1, 1, "open")
        self.check_error("<a>" * 60 + "<", 1, 182, "open")
        self.check_error("<a>" + "<b/>" * 4999 + "<", 1, 20001, "open")
        self.check_error("<a>" + "x" * 200, 1, 204, "open")
        self.check_error("<a>\n", 2, 1, "open")

    def test_character(self):
        for sign in BAD_SIGNS:
            self.check_error(sign, 1, 1, "character")
            self.check_error("<" + sign, 1, 2, "character")
            self.check_error("<a" + sign + "b>", 1, 3, "character")
            self.check_error("<a/" + sign + ">", 1, 4, "character")
            self.check_error("<a>" + sign + "</a>", 1, 4, "character")
            self.check_error("<a>\nxy" + sign + "</a>", 2, 3, "character")
            self.check_error("<a></" + sign + "a>", 1, 6, "character")
            self.check_error("<a></a" + sign + ">", 1, 7, "character")
            self.check_error("<a/>" + sign, 1, 5, "character")
            self.check_error("<a>&" + sign + "</a>", 1, 4, "sign")

    def test_character_ahead_of_other_reasons(self):
        self.check_error("<a>" + "x" * 200 + "\t", 1, 204, "character")
        self.check_error(nested(60, "\t"), 1, 181, "character")
        self.check_error("<a>" + "<b/>" * 4999 + "\x7f</a>", 1, 20000, "character")

    def test_element(self):
        for text in ("a", " <a/>", "\n<a/>", "/", ">", "&lt;", "x<a/>"):
            self.check_error(text, 1, 1, "element")

    def test_more(self):
        for text in ("x", "<b/>", " ", "\n", "</a>", ">", "&", "/"):
            self.check_error("<a/>" + text, 1, 5, "more")
            self.check_error("<a>\n\n</a>" + text, 3, 5, "more")
        self.check_error("<a/>>", 1, 5, "more")

    def test_name(self):
        for sign in "A1 /<>&-`{\n":
            self.check_error("<" + sign, 1, 2, "name")
        for sign in "A1 <>&-`{\n":
            self.check_error("<a><" + sign, 1, 5, "name")
        for sign in "A1 /<>&-`{\n":
            self.check_error("<a></" + sign, 1, 6, "name")
        for behind in ("", ">", "/>", "m", "A", "\t"):
            self.check_error("<" + NAME_OF_13 + behind, 1, 2, "name")
            self.check_error("<a>x\n<" + NAME_OF_13 + behind, 2, 2, "name")
            self.check_error("<a></" + NAME_OF_13 + behind, 1, 6, "name")
        self.check_error("<" + NAMES_OF_12[0] + "></" + NAME_OF_13 + ">", 1, 17, "name")

    def test_tag(self):
        for sign in " A1<&\n=":
            self.check_error("<a" + sign, 1, 3, "tag")
            self.check_error("<a/" + sign + ">", 1, 4, "tag")
            self.check_error("<a></a" + sign, 1, 7, "tag")
            self.check_error("<a>\n<b/></a" + sign, 2, 8, "tag")
        self.check_error("<a//>", 1, 4, "tag")
        self.check_error("<a/a>", 1, 4, "tag")
        self.check_error("<a></a/>", 1, 7, "tag")
        self.check_error("<" + NAMES_OF_12[0] + "1>", 1, 14, "tag")

    def test_end(self):
        self.check_error("<a></b>", 1, 6, "end")
        self.check_error("<ab></a>", 1, 7, "end")
        self.check_error("<a></ab>", 1, 6, "end")
        self.check_error("<a>\n<b>\nx</a>", 3, 4, "end")
        self.check_error("<a><b></b></b>", 1, 13, "end")
        self.check_error("<a><b/></b>", 1, 10, "end")
        for sign in " 1/\t\x7f":
            self.check_error("<a></b" + sign, 1, 6, "end")
            self.check_error("<ab></a" + sign, 1, 7, "end")

    def test_end_where_the_text_ends(self):
        for name in ("zz", "b", "ba", "ab", "aa", NAMES_OF_12[0]):
            self.check_error("<a></" + name, 1, 6, "end")
            self.check_error("<a>x\n<a></a></" + name, 2, 10, "end")
        self.check_error("<abcdefghijkl><abcdefghijkl></zz", 1, 31, "end")
        self.check_error("<abc></abd", 1, 8, "end")
        self.check_error("<abc></bc", 1, 8, "end")
        # What the name that is due begins with may still become it.
        for many in range(4):
            self.check_error("<abc></" + "abc"[:many], 1, 8 + many, "open")

    def test_sign(self):
        self.check_error("<a>></a>", 1, 4, "sign")
        self.check_error("<a>x>", 1, 5, "sign")
        self.check_error("<a>x\n\n >", 3, 2, "sign")
        for behind in ("", ";", "lt", "lt ", "LT;", "#60;", "quot;", " lt;", "&lt;", "ampamp;", "l\nt;", "am", "g"):
            self.check_error("<a>&" + behind, 1, 4, "sign")
            self.check_error("<a>&lt;\n&" + behind + "</a>", 2, 1, "sign")

    def test_long(self):
        self.check_error("<a>" + "x" * 201 + "</a>", 1, 204, "long")
        self.check_error("<a>" + "x" * 500, 1, 204, "long")
        self.check_error("<a>" + "&lt;" * 200 + "&gt;</a>", 1, 804, "long")
        self.check_error("<a>" + "&amp;" * 100 + "x" * 101 + "</a>", 1, 604, "long")
        self.check_error("<a>" + "\n" * 200 + "xy</a>", 201, 1, "long")
        self.check_error("<a>" + "\n" * 199 + "xy</a>", 200, 2, "long")
        self.check_error("<a>" + "x" * 200 + "<b/>" + "x" * 201 + "</a>", 1, 408, "long")

    def test_sign_ahead_of_long(self):
        for sign in (">", "&", "&l;"):
            self.check_error("<a>" + "x" * 200 + sign, 1, 204, "sign")

    def test_deep(self):
        for inner in ("<a>", "<z/>", "<z></z>", "<1>", "text", " ", "&lt;", "\n"):
            self.check_error(nested(60, inner), 1, 181, "deep")
        self.check_error("<a>\n<a/>" + nested(59, "x<z/>"), 2, 5 + 3 * 59, "deep")
        self.check_error(nested(60, ">"), 1, 181, "sign")
        self.check_error(nested(60, "&"), 1, 181, "sign")

    def test_many(self):
        self.check_error("<a>" + "<b/>" * 5000 + "</a>", 1, 20000, "many")
        self.check_error("<a>" + "<b/>" * 4999 + "x</a>", 1, 20000, "many")
        self.check_error("<a>" + "<b/>" * 4999 + "<1", 1, 20000, "many")
        self.check_error("<a>" + "x<b/>" * 2499 + "x\n<b/></a>", 2, 1, "many")
        self.check_error("<a>" + "<b/>" * 4999 + "&</a>", 1, 20000, "sign")
        self.check_error("<a>" + "<b/>" * 4999 + "</a><b/>", 1, 20004, "more")

    def test_deep_ahead_of_many(self):
        begin = "<a>" + "<b/>" * 4940 + "<a>" * 59
        self.check_read(begin + "</a>" * 60, ("a", [("b", [])] * 4940 + [chain(59, ("a", []))]))
        self.check_error(begin + "<b/>", 1, len(begin) + 1, "deep")
        self.check_error(begin + "x", 1, len(begin) + 1, "deep")

    def test_the_first_of_several_wrong_places(self):
        self.check_error("<a><b></c>></a>", 1, 9, "end")
        self.check_error("<a>x>&<b></a>\t", 1, 5, "sign")
        self.check_error("<a\n>\t", 1, 3, "tag")
        self.check_error("<a>" + "<b/>" * 5000 + ">", 1, 20000, "many")
        self.check_error(nested(61, "\t"), 1, 181, "deep")
        self.check_error("<A>\t", 1, 2, "name")

    def test_too_large(self):
        for text in ("x" * 200001, "<a>" + "\t" * 200000, "<a/>" + " " * 200000, "\x00" * 300000):
            with self.assertRaises(TooLarge) as caught:
                read_document(text)
            self.assertEqual(caught.exception.limit, "text")

    def test_exactly_as_large_as_may_be(self):
        begin = "<a>" + ("x" * 200 + "<b/>") * 980
        text = begin + "y" * (200000 - len(begin) - 4) + "</a>"
        self.assertEqual(len(text), 200000)
        self.assertEqual(write_document(read_document(text)), text)
        self.check_error("x" * 200000, 1, 1, "element")
        self.check_error("<a/>" + "\n" * 199996, 1, 5, "more")


class DrawnTextsTest(unittest.TestCase):
    def error_of(self, text):
        try:
            read_document(text)
        except TextError as error:
            return error.line, error.column, error.reason
        return None

    def check(self, text):
        found = self.error_of(text)
        if found is None:
            short = re.sub("<([a-z]+)></\\1>", "<\\1/>", text)
            self.assertEqual(write_document(read_document(text)), short)
            return
        line, column, reason = found
        lines = text.split("\n")
        place = sum(len(row) + 1 for row in lines[:line - 1]) + column - 1
        self.assertTrue(place <= len(text) and column - 1 <= len(lines[line - 1]))
        self.assertEqual(place == len(text), reason == "open")
        # What stands ahead of the first wrong place is as told, as far as it goes.
        cut = self.error_of(text[:place])
        if cut is None:
            self.assertIn(reason, ("more", "character"))
        else:
            self.assertEqual(cut, (line, column, "open"))
            self.assertNotEqual(reason, "more")

    def test_drawn_texts(self):
        dice = random.Random(19)
        for _ in range(6000):
            self.check("<a>" + "".join(dice.choice(PIECES) for _ in range(dice.randrange(12))))

    def test_changed_documents(self):
        dice = random.Random(18)
        texts = [write_document(tree) for tree in some_documents()] + ["<a>1 &lt; 2\n<ab>&amp;</ab></a>"]
        for _ in range(4000):
            text = dice.choice(texts)
            place = dice.randrange(len(text) + 1)
            self.check(text[:place] + dice.choice(PIECES) + text[place + dice.randrange(3):])


if __name__ == "__main__":
    unittest.main()

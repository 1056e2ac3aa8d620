"""Points 51 to 53, and the interface's heading topiary/desk.py."""

import random
import unittest
from unittest import mock

from desking import BOXES, DOCUMENTS, PlainDesk, drawn_line
from topiary.box import pack
from topiary.commands import Work
from topiary.desk import Desk, answers_of
from topiary.errors import InvalidLine
from topiary.rows import rows_of
from trees import bushy

DIGITS = "0123456789abcdef"


def loaded(text):
    """A desk that has loaded the document."""
    desk = Desk()
    for at in range(0, len(text), 150):
        desk.obey("text " + text[at:at + 150])
    assert desk.obey("load")[0].startswith("loaded")
    return desk


def digits_of(tree):
    return "".join(format(number, "02x") for number in pack(rows_of(tree)))


def unboxed(tree):
    """A desk that has loaded the document from its box."""
    desk = Desk()
    digits = digits_of(tree)
    for at in range(0, len(digits), 195):
        desk.obey("text " + digits[at:at + 195])
    assert desk.obey("unbox")[0].startswith("loaded")
    return desk


class DeskTest(unittest.TestCase):
    def check(self, desk, lines):
        for line, answer in lines:
            self.assertEqual(desk.obey(line), answer if isinstance(answer, list) else [answer], line)

    def check_refused(self, desk, lines):
        """Each line is refused with the reason, and nothing changes but the list of lines."""
        before = self.state(desk)
        told = desk.lines()
        for line, reason in lines:
            self.assertEqual(desk.obey(line), [f"refused {reason}"], line)
            told.append(line)
            self.assertEqual(desk.lines(), told)
        self.assertEqual(self.state(desk), before)

    def state(self, desk):
        """What is shown, and how many edits and strings there are."""
        work = desk._work
        layers = work._layers
        return desk.shown(), list(work._draft), None if layers is None else (layers.edits(), layers.below())


class TableTest(DeskTest):
    def test_example(self):
        self.check(Desk(), [
            ("text <a><b>one</b>", "lines 1"), ("text <b/></a>", "lines 2"), ("load", "loaded 4"),
            ("find //b", "found 2 1 3"), ('find //b["n"]', "found 1 1"), ("where n", "2 1"),
            ("node 1", "b under 0 children 2"), ("graft 3 0 two", "edits 1"), ("rename 1 c", "edits 2"),
            ("show", "<a><c>one</c><b>two</b></a>"), ("lift", "edits 1"), ("alike //a/b //b", "apart b"),
            ("cut 0", "refused edit root"), ("node 2", 'text under 1 "one"'),
            ("rows", ["names a b", "labels 1 2 2 0 0", "lasts 1 0 1 1 1", "fulls 1 1 1 0 0"]),
        ])

    def test_word(self):
        desk = loaded("<a/>")
        for line in ("", " ", "x", "Text x", "texts", "text<a>", " show", "show\\", "loa", "quit", "DROP", " text x",
                "0"):
            self.check_refused(desk, [(line, "word")])

    def test_count(self):
        for desk in (Desk(), loaded("<a><b/></a>")):
            for word in ("drop", "load", "unbox", "show", "lift", "merge", "rows", "box"):
                for more in (" ", "  ", " x", " x y", " 1"):
                    self.check_refused(desk, [(word + more, "count")])
            for line in ("node", "cut", "rename", "retext", "graft", "graft 0", "graft x"):
                self.check_refused(desk, [(line, "count")])
            for line in ("node 0 ", "node 0 0", "node  0", "cut 1 ", "cut 1 x", "cut  1", "node x y"):
                self.check_refused(desk, [(line, "count")])

    def test_none(self):
        lines = [
            "show", "node 0", "find /a", "where x", "alike /a /a", "rename 0 b", "retext 0 b", "cut 0", "graft 0 0 x",
            "lift",
            "merge", "rows", "box", "node x", "find", "graft 00 x <", "cut 123456", "where ", "alike",
        ]
        desk = Desk()
        self.check_refused(desk, [(line, "none") for line in lines])
        desk.obey("text <a>")
        desk.obey("load")
        self.check_refused(desk, [(line, "none") for line in lines])
        self.assertIsNone(desk.shown())
        self.check(desk, [("drop", "dropped")])

    def test_number(self):
        desk = loaded("<a><b>x</b></a>")
        for number in ("", "00", "01", "000", "-1", "+1", "1.", "123456", "000001", "100000", "x", "1x", "0x1", "_1",
                "1_0"):
            self.check_refused(desk, [
                (f"node {number}", "number"), (f"cut {number}", "number"), (f"rename {number} c", "number"),
                (f"retext {number} c", "number"), (f"graft {number} 0 <c", "number"),
                (f"graft 0 {number} <c", "number"),
            ])
        self.check_refused(desk, [("node 99999", "node"), ("cut 99999", "edit node"), ("cut 0", "edit root")])
        self.check(desk, [("node 0", "a children 1"), ("graft 1 0 <c/>", "edits 1"), ("graft 0 1 v", "edits 2")])

    def test_which_reason_counts(self):
        desk = Desk()
        self.check_refused(desk, [("nod", "word"), ("node", "count"), ("node x", "none"), ("graft x", "count")])
        desk = loaded("<a>x</a>")
        self.check_refused(desk, [
            ("graft x 0 <c", "number"), ("graft 9 0 <c", "tree 1 3 open"), ("graft 9 9 ", "edit node"),
            ("graft 1 9 <c>", "tree 1 4 open"), ("graft 1 9 ", "edit kind"), ("graft 0 9 ", "edit place"),
            ("graft 0 0 ", "edit tree"), ("graft 0 0 x", "edit beside"), ("rename 9 A", "edit node"),
            ("rename 1 A", "edit kind"), ("rename 0 A", "edit name"), ("retext 0 ", "edit kind"),
            ("retext 1 ", "edit text"),
        ])

    def test_text_and_drop(self):
        desk = Desk()
        self.check(desk, [
            ("text a", "lines 1"), ("text ", "lines 2"), ("text", "lines 3"), ("text  b ", "lines 4"),
            ("drop", "dropped"),
            ("drop", "dropped"), ("text x", "lines 1"),
        ])
        self.assertEqual(desk._work._draft, ["x"])

    def test_the_draft_is_full(self):
        desk = Desk()
        for many in range(1, 301):
            self.check(desk, [("text x", f"lines {many}")])
        self.check_refused(desk, [("text x", "full"), ("text ", "full"), ("text", "full"), ("texts", "word")])
        self.check(desk, [("drop", "dropped"), ("text x", "lines 1")])

    def test_rest_is_kept_as_it_stands(self):
        desk = Desk()
        for line in ("text <a>  x", "text   y  ", "text ", "text </a>"):
            desk.obey(line)
        self.check(desk, [("load", "loaded 2"), ("show", "<a>  x  y  </a>"), ("node 1", 'text under 0 "  x  y  "')])
        self.check(desk, [("retext 1  z ", "edits 1"), ("show", "<a> z </a>"), ("where z ", "1 1"),
            ("where  z ", "1 0")])
        self.check_refused(desk, [("rename 0  b", "edit name"), ("rename 0 b ", "edit name"),
            ("find  /a", "question 1 step")])
        self.check(desk, [("graft 0 0 <b/>", "edits 2"), ("graft 0 0  <b/>", "edits 3"),
            ("show", "<a> &lt;b/&gt;<b/> z </a>")])

    def test_load(self):
        desk = Desk()
        self.check_refused(desk, [("load", "text 1 1 open")])
        for text, reason in (
            ("<a>", "1 4 open"), ("x", "1 1 element"), ("<a/>x", "1 5 more"), ("<A/>", "1 2 name"),
            ("<a b/>", "1 3 tag"),
            ("<a></b>", "1 6 end"), ("<a>></a>", "1 4 sign"), ("<a></zz", "1 6 end"), ("<a>&n;</a>", "1 4 sign"),
        ):
            desk.obey("text " + text)
            self.check_refused(desk, [("load", "text " + reason)])
            desk.obey("drop")
        for line in ("text <a>x", "text ", "text <b/", "text ></", "text a>"):
            desk.obey(line)
        self.check(desk, [("load", "loaded 3"), ("show", "<a>x<b/></a>"), ("text <c/>", "lines 1")])
        self.assertEqual(desk.shown(), ("a", ["x", ("b", [])]))

    def test_load_with_an_error_in_a_later_line(self):
        desk = loaded("<z/>")
        desk.obey("cut 9")
        desk.obey("rename 0 y")
        for line in ("text <a>", "text " + "x" * 195, "text yy", "text <b></c>"):
            desk.obey(line)
        self.check_refused(desk, [("load", "text 1 206 end")])
        self.check(desk, [("drop", "dropped"), ("show", "<y/>"), ("lift", "edits 0")])
        for line in ("text <a>", "text " + "x" * 195, "text yyyyyy"):
            desk.obey(line)
        self.check_refused(desk, [("load", "text 1 204 long")])

    def test_load_takes_the_place_of_what_was_loaded(self):
        desk = loaded("<a><b/></a>")
        self.check(desk, [
            ("rename 0 c", "edits 1"), ("text <d/>", "lines 1"), ("show", "<c><b/></c>"), ("load", "loaded 1"),
            ("show", "<d/>"), ("lift", "refused none"), ("load", "refused text 1 1 open"), ("show", "<d/>"),
        ])

    def test_load_of_a_text_that_is_too_large(self):
        # The lines of a desk cannot make such a draft; what is answered to it is told nevertheless.
        work = Work()
        with mock.patch.object(work, "_draft", ["x" * 200001]):
            self.assertEqual(work.obey("load", [], ""), ["refused large"])
        self.assertIsNone(work.shown())

    def test_unbox(self):
        for _, tree in BOXES:
            desk = unboxed(tree)
            self.assertEqual(desk.shown(), tree)
            self.check_refused(desk, [("lift", "none"), ("unbox", "box")])

    def test_unbox_is_refused(self):
        tree = ("a", ["x\ny", ("b", [])])
        digits = digits_of(tree)
        desk = loaded("<z><y/></z>")
        desk.obey("cut 1")
        for text, reason in (
            ("", "box"), ("0", "digits"), ("00", "box"), ("0g", "digits"), ("g", "digits"), (digits[:-1], "digits"),
            (digits + "0", "digits"), (digits.upper(), "digits"), (digits[:-2], "box"), (digits + "00", "box"),
            (" " + digits[1:], "digits"), (digits[:4] + " " + digits[5:], "digits"), ("  " + digits, "digits"),
            (digits[:10] + "  " + digits[10:], "digits"), ("0x" + digits[2:], "digits"), ("-1" + digits, "digits"),
            (digits[2:], "box"), ("f" * len(digits), "box"), ("ff" + digits[2:], "box"), ("A0", "digits"),
        ):
            desk.obey("drop")
            desk.obey("text " + text)
            self.check_refused(desk, [("unbox", reason)])
        desk.obey("drop")
        self.check_refused(desk, [("unbox", "box")])
        # In pieces, also of odd numbers of digits.
        for at in range(0, len(digits), 3):
            desk.obey("text " + digits[at:at + 3])
        self.check(desk, [("unbox", "loaded 3"), ("lift", "refused none"), ("show", "<a>x&n;y<b/></a>")])
        self.assertEqual(desk._work._draft, [])

    def test_unbox_of_boxes_with_changes(self):
        dice = random.Random(51)
        desk, plain = Desk(), PlainDesk()
        answers = set()
        for _ in range(300):
            digits = digits_of(dice.choice(BOXES)[1])
            at = dice.randrange(len(digits))
            changed = digits[:at] + dice.choice(["", *DIGITS, dice.choice("gA ")]) + digits[at + dice.randrange(3):]
            for line in ("drop", "text " + changed, "unbox"):
                answer = desk.obey(line)
                self.assertEqual(answer, plain.obey(line), line)
            answers.add(answer[0].split(" ")[-1])
            self.assertEqual(desk.shown(), plain.shown())
        self.assertTrue(answers >= {"box", "digits"})

    def test_show(self):
        desk = unboxed(("a", ["x" * 90 + "\n\n\n&n;", ("b", ["\n"])]))
        text = "<a>" + "x" * 90 + "&n;&n;&n;&amp;n;<b>&n;</b></a>"
        self.check(desk, [("show", [text[:100], text[100:]])])
        for many in (92, 93, 94):
            text = f"<a>{'x' * many}</a>"
            expected = [text] if many < 94 else [text[:100], text[100:]]
            self.check(loaded(text), [("show", expected)])

    def test_node(self):
        desk = unboxed(("a", [("b", ['"\n\\']), "x y", ("c", [])]))
        self.check(desk, [
            ("node 0", "a children 1 3 4"), ("node 1", "b under 0 children 2"), ("node 2", 'text under 1 "\\"\\n\\\\"'),
            ("node 3", 'text under 0 "x y"'), ("node 4", "c under 0"), ("node 5", "refused node"),
            ("node 99999", "refused node"),
            ("cut 4", "edits 1"), ("node 4", "refused node"), ("graft 0 0 <d/>", "edits 2"), ("node 1", "d under 0"),
            ("node 0", "a children 1 2 4"),
        ])
        self.check(loaded("<zz/>"), [("node 0", "zz")])

    def test_find(self):
        desk = unboxed(("a", [("b", ["a b\n"]), "x", ("b", [])]))
        self.check(desk, [
            ("find /a", "found 1 0"), ("find //*", "found 3 0 1 4"), ("find //#", "found 2 2 3"),
            ("find //c", "found 0"),
            ('find //#["a b"]', "found 1 2"), ('find //#["b\\n"]', "found 1 2"), ("find //b[/#]", "found 1 1"),
            ("find /a/b[2]", "found 1 4"),
        ])
        self.check_refused(desk, [
            ("find", "question 1 step"), ("find ", "question 1 step"), ("find  /a", "question 1 step"),
            ("find /a ", "question 3 end"), ("find /A", "question 2 test"), ("find /a[0]", "question 4 filter"),
            ('find /a["x', "question 4 string"), ('find /a["\\', "question 4 string"),
            ("find /a[1", "question 5 close"),
            ("find //a[1]", "question 5 number"), ("find " + "/a" * 13, "question 25 steps"),
        ])

    def test_where(self):
        desk = unboxed(("a", ["aaa", ("b", ["xaa", ("c", []), 'a "b" \n'])]))
        self.check(desk, [
            ("where aa", ["1 0", "1 1", "3 1"]), ("where a", ["1 0", "1 1", "1 2", "3 1", "3 2", "5 0"]),
            ("where y", []),
            ("where  ", ["5 1", "5 5"]), ('where "b"', ["5 2"]), ("where aaax", []), ("where b", ["5 3"]),
        ])
        everywhere = [f"1 {k}" for k in range(4)] + [f"3 {k}" for k in range(4)] + [f"5 {k}" for k in range(8)]
        self.check(desk, [("where ", everywhere), ("where", everywhere)])
        self.check(desk, [("cut 1", "edits 1"), ("where aa", ["2 1"]), ("lift", "edits 0"),
            ("retext 1 baa", "edits 1")])
        self.check(desk, [("where aa", ["1 1", "3 1"])])
        self.check(loaded("<a/>"), [("where ", []), ("where x", [])])

    def test_alike(self):
        desk = loaded("<a/>")
        self.check(desk, [
            ("alike /a /a", "alike"), ("alike //*//# //#", "alike"), ("alike //a/b //b", "apart b"),
            ("alike //a //a/#", "apart a"), ("alike //# //a/#", "apart b #"), ("alike /a/b/c /a/b", "apart a b"),
        ])
        self.check_refused(desk, [
            ("alike", "question 1 step"), ("alike ", "question 1 step"), ("alike  ", "question 1 step"),
            ("alike /a", "question 1 step"), ("alike /a ", "question 1 step"), ("alike  /a", "question 1 step"),
            ("alike /a  /a", "question 1 step"), ("alike /a /a ", "question 3 end"),
            ("alike /a /a /a", "question 3 end"),
            ("alike /A /B", "question 2 test"), ("alike //a /B", "question 2 test"), ("alike /a/ /", "question 4 test"),
            ("alike /a[1] /a", "filter"), ("alike /a /a[1]", "filter"), ('alike /a["x y"] /a', "filter"),
            ('alike /a["x y"] /a["y z"]', "filter"), ('alike /a["x y"] /a["y z', "question 4 string"),
            ('alike /a["\\" "] /A', "question 2 test"), ('alike /a["\\\\" /A', "question 8 close"),
            ('alike /a["\\\\"] /A', "question 2 test"), ('alike /a["x /a', "question 4 string"),
            ('alike /a["x\\', "question 4 string"),
            ("alike /a[1] /a[", "question 4 filter"), ('alike /a" "/a /a', "question 3 end"),
            ("alike \\ /a", "question 1 step"),
            ('alike /a[" "] ', "question 1 step"), ('alike /a[" "]', "question 1 step"),
            ('alike /a /a["x"] ', "question 8 end"),
        ])

    def test_edits(self):
        desk = loaded("<a>x<b/>y</a>")
        self.check(desk, [
            ("rename 2 c", "edits 1"), ("retext 1 1 < 2", "edits 2"), ("graft 2 0 <d>&lt;z</d>", "edits 3"),
            ("graft 2 1 z & z", "edits 4"), ("show", "<a>1 &lt; 2<c><d>&lt;z</d>z &amp; z</c>y</a>"),
            ("cut 3", "edits 5"),
            ("show", "<a>1 &lt; 2<c>z &amp; z</c>y</a>"), ("cut 2", "refused edit beside"), ("cut 4", "edits 6"),
        ])
        self.check_refused(desk, [
            ("rename 9 c", "edit node"), ("rename 1 c", "edit kind"), ("rename 0 C", "edit name"),
            ("rename 0", "edit name"),
            ("rename 0 abcdefghijklm", "edit name"), ("retext 0 x", "edit kind"), ("retext 1 ", "edit text"),
            ("retext 1", "edit text"), ("cut 0", "edit root"), ("cut 9", "edit node"), ("graft 0 5 x", "edit place"),
            ("graft 0 0 x", "edit beside"), ("graft 0 0", "edit tree"), ("graft 0 0 <c", "tree 1 3 open"),
            ("graft 0 0 <c></d>", "tree 1 6 end"), ("graft 0 0 <c/>x", "tree 1 5 more"),
            ("graft 0 0 <c/> ", "tree 1 5 more"),
            ("graft 0 0 <", "tree 1 2 open"), ("graft 0 0 <c>&n;</c>", "tree 1 4 sign"),
        ])
        self.check(desk, [(("lift", f"edits {many}")) for many in range(5, -1, -1)])
        self.check_refused(desk, [("lift", "none")])
        self.check(desk, [("show", "<a>x<b/>y</a>")])

    def test_edits_of_large_documents(self):
        desk = unboxed(bushy(4999))
        self.check(desk, [("graft 0 0 <b/>", "edits 1"), ("graft 0 0 <b/>", "refused edit size"), ("lift", "edits 0")])
        self.check(desk, [("graft 0 0 <b>x</b>", "refused edit size")])
        desk = loaded("<a>" * 59 + "<b/>" + "</a>" * 59)
        self.check(desk, [("graft 59 0 x", "refused edit size"), ("graft 58 0 x", "edits 1")])

    def test_merge(self):
        desk = loaded("<a><b/></a>")
        self.check(desk, [
            ("merge", "merged"), ("rename 1 c", "edits 1"), ("merge", "merged"), ("lift", "refused none"),
            ("show", "<a><c/></a>"), ("cut 1", "edits 1"), ("lift", "edits 0"), ("show", "<a><c/></a>"),
        ])

    def test_rows_and_box(self):
        desk = loaded("<zz/>")
        self.check(desk, [("rows", ["names zz", "labels 1", "lasts 1", "fulls 0"])])
        desk = loaded("<a><b>x</b>y<b/><a>z</a></a>")
        self.check(desk, [
            ("rows", ["names a b", "labels 1 2 0 2 1 0 0", "lasts 1 0 0 0 1 1 1", "fulls 1 1 0 0 1 0 0"]),
            ("cut 4", "edits 1"),
            ("rows", ["names a b", "labels 1 2 0 1 0 0", "lasts 1 0 0 1 1 1", "fulls 1 1 0 1 0 0"]),
        ])
        desk = loaded("<a/>")
        bits = "010" + "010" + "00000" + "010" + "1" + "010" + "0" + "1" + "0" + "1" * 96
        digits = "".join(format(int(bits[at:at + 8].ljust(8, "0"), 2), "02x") for at in range(0, len(bits), 8))
        self.check(desk, [("box", [f"bits {len(bits)}", digits])])
        lines = unboxed(bushy(200)).obey("box")
        self.assertEqual("".join(lines[1:]), digits_of(bushy(200)))
        self.assertEqual({len(line) for line in lines[1:-1]}, {100})


class LinesTest(DeskTest):
    def test_lines_that_are_refused_with_an_error(self):
        for desk in (Desk(), loaded("<a>x</a>")):
            before, lines = self.state(desk), desk.lines()
            for line in (
                "text " + "x" * 196, "x" * 201, "text a\tb", "text a\n", "\n", "show\n", "text \x7f", "text \u00e9",
                "find //\u20ac",
                "\t" * 300, "drop\r",
            ):
                with self.assertRaises(InvalidLine) as caught:
                    desk.obey(line)
                self.assertEqual(caught.exception.line, line)
                self.assertEqual((self.state(desk), desk.lines()), (before, lines))

    def test_lines_of_200_characters(self):
        desk = Desk()
        self.check(desk, [("text " + "x" * 195, "lines 1"), ("text ~ !", "lines 2"), ("x" * 200, "refused word")])
        self.assertEqual(desk.lines(), ["text " + "x" * 195, "text ~ !", "x" * 200])

    def test_what_is_returned_may_be_changed_afterwards(self):
        desk = loaded("<a><b>x</b></a>")
        self.assertEqual(desk.lines(), ["text <a><b>x</b></a>", "load"])
        desk.lines().clear()
        desk.shown()[1].clear()
        for line in ("show", "rows", "box", "where x", "node 0", "find //*"):
            answer = desk.obey(line)
            kept = list(answer)
            answer.clear()
            self.assertEqual(desk.obey(line), kept)
        self.assertEqual(desk.shown(), ("a", [("b", ["x"])]))
        self.assertEqual(len(desk.lines()), 14)

    def test_nothing_is_shown_as_long_as_nothing_is_loaded(self):
        desk = Desk()
        self.assertIsNone(desk.shown())
        for line in ("text <a/>", "show", "unbox", "load x"):
            desk.obey(line)
            self.assertIsNone(desk.shown())
        desk.obey("load")
        self.assertEqual(desk.shown(), ("a", []))

    def test_answers_of(self):
        lines = ["text <a>x</a>", "show", "load", "x", "rename 0 b", "show", "where x"]
        answers = [["lines 1"], ["refused none"], ["loaded 2"], ["refused word"], ["edits 1"], ["<b>x</b>"], ["1 0"]]
        self.assertEqual(answers_of(lines), answers)
        self.assertEqual(answers_of(lines), answers)
        self.assertEqual(answers_of([]), [])
        with self.assertRaises(InvalidLine):
            answers_of(["drop", "\n"])

    def test_two_desks_have_nothing_in_common(self):
        one, two = loaded("<a/>"), Desk()
        two.obey("text x")
        self.check(one, [("text y", "lines 1"), ("rename 0 b", "edits 1")])
        self.assertIsNone(two.shown())
        self.check(two, [("text z", "lines 2"), ("lift", "refused none")])


class FactsTest(DeskTest):
    def test_drawn_lines_against_a_plain_desk(self):
        dice = random.Random(50)
        for course in range(30):
            desk, plain, lines, answers = Desk(), PlainDesk(), [], []
            for at in range(150):
                line = drawn_line(dice)
                if at == 1 or dice.randrange(25) == 0:
                    for line in ("drop", "text " + dice.choice(DOCUMENTS), "load"):
                        lines.append(line)
                        answers.append(desk.obey(line))
                        self.assertEqual(answers[-1], plain.obey(line), lines)
                    continue
                if dice.randrange(40) == 0:
                    digits = digits_of(dice.choice(BOXES)[1])
                    for line in ("drop", "text " + digits, "unbox"):
                        lines.append(line)
                        answers.append(desk.obey(line))
                        self.assertEqual(answers[-1], plain.obey(line), lines)
                    continue
                lines.append(line)
                answers.append(desk.obey(line))
                self.assertEqual(answers[-1], plain.obey(line), lines)
                self.assertEqual(desk.shown(), plain.shown())
            self.assertEqual(desk.lines(), lines)
            self.assertEqual(answers_of(lines), answers)

    def test_find_ahead_of_merge_and_behind_it(self):
        desk = loaded("<a><b>one</b>x<b/><c>two</c></a>")
        edits = ["rename 1 c", "graft 4 0 <b>new</b>", "cut 3", "graft 0 1 y", "retext 2 oo", "graft 1 1 <b/>"]
        lines = ["find //b", "find //c[/#]", 'find //#["o"]', "find /a/*[2]", "find //*", "show", "where o", "rows",
            "box"]
        for edit in edits:
            desk.obey(edit)
            before = [desk.obey(line) for line in lines]
            desk.obey("merge")
            self.assertEqual([desk.obey(line) for line in lines], before)

    def test_the_box_loads_the_shown_document(self):
        for text in ("<a/>", "<a><b>one</b>x<b/></a>", "<a>" * 60 + "</a>" * 60):
            desk = loaded(text)
            for edit in ("rename 0 z", "graft 0 0 <b>x y</b>", "graft 0 1 <b/>"):
                desk.obey(edit)
                digits = "".join(desk.obey("box")[1:])
                for size in (1, 7, 100, 195):
                    other = Desk()
                    if len(digits) <= 300 * size:
                        for at in range(0, len(digits), size):
                            other.obey("text " + digits[at:at + size])
                        self.assertEqual(other.obey("unbox")[0].split(" ")[0], "loaded")
                        self.assertEqual(other.shown(), desk.shown())
                        self.assertEqual(other.obey("box"), desk.obey("box"))

    def test_the_box_of_a_large_document(self):
        tree = bushy(5000)
        desk = unboxed(tree)
        other = Desk()
        for line in desk.obey("box")[1:]:
            other.obey("text " + line)
        self.check(other, [("unbox", "loaded 5000")])
        self.assertEqual(other.shown(), tree)

    def test_lift_behind_many_edits(self):
        dice = random.Random(54)
        desk = loaded("<a><b>one</b>x<b/><c>two</c></a>")
        shown = [desk.obey("show")]
        while len(shown) < 80:
            line = drawn_line(dice)
            if line.split(" ")[0] in ("rename", "retext", "cut", "graft"):
                if desk.obey(line) == [f"edits {len(shown)}"]:
                    shown.append(desk.obey("show"))
        while len(shown) > 1:
            self.assertEqual(desk.obey("show"), shown.pop())
            self.check(desk, [("lift", f"edits {len(shown) - 1}")])
        self.assertEqual(desk.obey("show"), shown.pop())
        self.check_refused(desk, [("lift", "none")])


if __name__ == "__main__":
    unittest.main()

"""Points 51 and 52, and the interface's heading topiary/report.py."""

import copy
import unittest

from topiary.box import bits_told, pack
from topiary.errors import InvalidPlace
from topiary.questions import read_question, write_question
from topiary.report import box_lines, node_line, pieces_of, quoted, rows_lines, show_lines
from topiary.rows import rows_of
from topiary.writer import write_document
from trees import EXAMPLE, bushy, chain, laid_out, some_documents

SIGNS = "\n" + "".join(map(chr, range(32, 127)))


class PiecesTest(unittest.TestCase):
    def test_pieces(self):
        self.assertEqual(pieces_of("", 5), [])
        self.assertEqual(pieces_of("abc", 5), ["abc"])
        self.assertEqual(pieces_of("abcde", 5), ["abcde"])
        self.assertEqual(pieces_of("abcdef", 5), ["abcde", "f"])
        self.assertEqual(pieces_of("abc", 1), ["a", "b", "c"])
        self.assertEqual(pieces_of("a\nb c", 2), ["a\n", "b ", "c"])
        for many in range(60):
            text = "".join(chr(48 + k) for k in range(many))
            for size in range(1, 12):
                pieces = pieces_of(text, size)
                self.assertEqual("".join(pieces), text)
                self.assertTrue(all(len(piece) == size for piece in pieces[:-1]))
                self.assertTrue(all(1 <= len(piece) <= size for piece in pieces[-1:]))


class QuotedTest(unittest.TestCase):
    def test_quoted(self):
        for text, expected in (
            ("x", '"x"'), ("", '""'), ('a"b', '"a\\"b"'), ("a\\b", '"a\\\\b"'), ("a\nb", '"a\\nb"'), ("\\n", '"\\\\n"'),
            ('\\"', '"\\\\\\""'), ("<&>", '"<&>"'), (" ", '" "'), ("\n\n", '"\\n\\n"'), ("'", '"\'"'),
        ):
            self.assertEqual(quoted(text), expected)

    def test_quoted_as_a_question_writes_it(self):
        for sign in SIGNS:
            for text in (sign, sign * 3, f"a{sign}b", f"{sign}\\", f'"{sign}'):
                question = [("child", "#", [("holds", text)])]
                self.assertEqual(f"/#[{quoted(text)}]", write_question(question))
                self.assertEqual(read_question(f"/#[{quoted(text)}]"), question)

    def test_long_texts(self):
        self.assertEqual(quoted("\n" * 200), '"' + "\\n" * 200 + '"')


class LinesTest(unittest.TestCase):
    def test_show(self):
        self.assertEqual(show_lines(EXAMPLE), ["<a><b>1 &lt; 2</b>x<a/></a>"])
        self.assertEqual(show_lines(("a", ["\n&n;\n\n"])), ["<a>&n;&amp;n;&n;&n;</a>"])
        self.assertEqual(show_lines(("a", [])), ["<a/>"])

    def test_show_is_cut_at_100(self):
        for many in (92, 93, 94, 193):
            text = f"<a>{'x' * many}</a>"
            lines = show_lines(("a", ["x" * many]))
            self.assertEqual("".join(lines), text)
            self.assertEqual([len(line) for line in lines],
                [100] * (len(text) // 100) + [len(text) % 100] * (len(text) % 100 > 0))
        # What stands for a newline may be cut.
        self.assertEqual(show_lines(("a", ["x" * 96 + "\n"])), ["<a>" + "x" * 96 + "&", "n;</a>"])
        self.assertEqual(show_lines(("a", ["x" * 95 + "<"])), ["<a>" + "x" * 95 + "&l", "t;</a>"])
        for tree in some_documents():
            self.assertEqual("".join(show_lines(tree)), write_document(tree).replace("\n", "&n;"))

    def test_rows(self):
        tree = ("a", [("b", ["x"]), "y", ("b", []), ("a", ["z"])])
        self.assertEqual(rows_lines(rows_of(tree)), [
            "names a b", "labels 1 2 0 2 1 0 0", "lasts 1 0 0 0 1 1 1", "fulls 1 1 0 0 1 0 0",
        ])
        self.assertEqual(rows_lines(rows_of(("zz", []))), ["names zz", "labels 1", "lasts 1", "fulls 0"])

    def test_box(self):
        for tree in [*some_documents(), bushy(300)]:
            rows = rows_of(tree)
            lines = box_lines(rows)
            self.assertEqual(lines[0], f"bits {bits_told(rows)}")
            self.assertEqual("".join(lines[1:]), "".join(format(number, "02x") for number in pack(rows)))
            self.assertTrue(all(len(line) == 100 for line in lines[1:-1]))
            self.assertTrue(1 <= len(lines[-1]) <= 100)

    def test_nodes(self):
        tree = ("a", [("b", ["1 < 2"]), "x", ("a", [])])
        self.assertEqual([node_line(tree, node) for node in range(5)], [
            "a children 1 3 4", "b under 0 children 2", 'text under 1 "1 < 2"', 'text under 0 "x"', "a under 0",
        ])
        self.assertEqual(node_line(("a", []), 0), "a")
        self.assertEqual(node_line(("a", ['\n"\\']), 1), 'text under 0 "\\n\\"\\\\"')
        self.assertEqual(node_line(chain(60), 59), "z under 58")

    def test_nodes_that_there_are_not(self):
        for node in (-1, 5, 10 ** 20, -5):
            with self.assertRaises(InvalidPlace) as caught:
                node_line(EXAMPLE, node)
            self.assertEqual(caught.exception.place, node)

    def test_arguments_stay(self):
        for tree in some_documents():
            before = copy.deepcopy(tree)
            rows = rows_of(tree)
            told = copy.deepcopy(vars(rows))
            show_lines(tree)
            rows_lines(rows)
            box_lines(rows)
            for node in range(len(laid_out(tree))):
                node_line(tree, node)
            self.assertEqual((tree, vars(rows)), (before, told))


if __name__ == "__main__":
    unittest.main()

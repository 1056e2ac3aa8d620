"""A plain desk for tests: it keeps the draft, the loaded document and the edits, and makes all else anew."""

import re

from asking import Plain
from editing import reason_by_the_words, rebuilt
from topiary.alike import compare
from topiary.box import bits_told, pack, unpack
from topiary.errors import FilteredQuestion, InvalidBox, InvalidQuestion, TextError
from topiary.questions import read_question
from topiary.reader import read_document
from topiary.rows import rows_of, tree_of
from topiary.writer import write_document
from trees import laid_out

# For each line the words that the table names: N and K are numbers, REST is the rest.
TABLE = [
    "text REST", "drop", "load", "unbox", "show", "node N", "find REST", "where REST", "alike REST", "rename N REST",
    "retext N REST", "cut N", "graft N K REST", "lift", "merge", "rows", "box",
]
NUMBER = re.compile("0|[1-9][0-9]{0,4}")
# The first of two questions: signs, and strings, which may not end.
FIRST = re.compile(r'([^ "]|"([^"\\]|\\.)*("|\\?$))*')


class Refused(Exception):
    pass


def written_string(text):
    return '"' + "".join({'"': '\\"', "\\": "\\\\", "\n": "\\n"}.get(sign, sign) for sign in text) + '"'


def pieces(text):
    return re.findall(".{1,100}", text)


class PlainDesk:
    def __init__(self):
        self.draft, self.below, self.edits = [], None, []

    def shown(self):
        tree = self.below
        for edit in self.edits:
            tree = rebuilt(tree, edit)[0][0]
        return tree

    def obey(self, line):
        try:
            return self.answer(line)
        except Refused as reason:
            return [f"refused {reason}"]

    def answer(self, line):
        words = line.split(" ")
        forms = [form.split(" ") for form in TABLE if form.split(" ")[0] == words[0]]
        if not forms:
            raise Refused("word")
        form = forms[0]
        fixed = [word for word in form if word != "REST"]
        if len(words) < len(fixed) or (len(words) > len(fixed) and "REST" not in form):
            raise Refused("count")
        if TABLE.index(" ".join(form)) > 3 and self.below is None:
            raise Refused("none")
        numbers = words[1:len(fixed)]
        if not all(NUMBER.fullmatch(number) for number in numbers):
            raise Refused("number")
        # What stands behind the fixed words and one space.
        rest = line[len(" ".join(words[:len(fixed)])) + 1:]
        passed = [int(number) for number in numbers] + ([rest] if "REST" in form else [])
        return getattr(self, "do_" + words[0])(*passed)

    def do_text(self, rest):
        if len(self.draft) >= 300:
            raise Refused("full")
        self.draft = self.draft + [rest]
        return [f"lines {len(self.draft)}"]

    def do_drop(self):
        self.draft = []
        return ["dropped"]

    def loaded(self, tree):
        self.draft, self.below, self.edits = [], tree, []
        return [f"loaded {len(laid_out(tree))}"]

    def read(self, text, word):
        try:
            return read_document(text)
        except TextError as error:
            raise Refused(f"{word} {error.line} {error.column} {error.reason}") from None

    def do_load(self):
        return self.loaded(self.read("".join(self.draft), "text"))

    def do_unbox(self):
        digits = "".join(self.draft)
        if not re.fullmatch("([0-9a-f]{2})*", digits):
            raise Refused("digits")
        try:
            rows = unpack([int(digits[at:at + 2], 16) for at in range(0, len(digits), 2)])
        except InvalidBox:
            raise Refused("box") from None
        return self.loaded(tree_of(rows))

    def do_show(self):
        return pieces(write_document(self.shown()).replace("\n", "&n;"))

    def do_node(self, number):
        nodes = laid_out(self.shown())
        if number >= len(nodes):
            raise Refused("node")
        tree, parent, _ = nodes[number]
        words = ["text" if isinstance(tree, str) else tree[0]]
        words += [] if parent is None else ["under", str(parent)]
        children = [str(at) for at, node in enumerate(nodes) if node[1] == number]
        words += ["children", *children] if children else []
        return [" ".join(words + ([written_string(tree)] if isinstance(tree, str) else []))]

    def question(self, text):
        try:
            return read_question(text)
        except InvalidQuestion as error:
            raise Refused(f"question {error.column} {error.reason}") from None

    def do_find(self, rest):
        found = Plain(self.shown()).found(None, self.question(rest))
        return [" ".join(map(str, ["found", len(found), *found]))]

    def do_where(self, rest):
        lines = []
        for number, (tree, _, _) in enumerate(laid_out(self.shown())):
            if isinstance(tree, str):
                places = [at for at in range(len(tree) + 1) if tree.startswith(rest, at)]
                lines += [f"{number} {at}" for at in places]
        return lines

    def do_alike(self, rest):
        first = FIRST.match(rest).group()
        try:
            kind, shown = compare(self.question(first), self.question(rest[len(first) + 1:]))
        except FilteredQuestion:
            raise Refused("filter") from None
        return ["alike"] if kind == "alike" else ["apart " + " ".join(shown)]

    def lay(self, *edit):
        reason = reason_by_the_words(self.shown(), edit)
        if reason is not None:
            raise Refused(f"edit {reason}")
        self.edits = self.edits + [edit]
        return [f"edits {len(self.edits)}"]

    def do_rename(self, number, rest):
        return self.lay("rename", number, rest)

    def do_retext(self, number, rest):
        return self.lay("retext", number, rest)

    def do_cut(self, number):
        return self.lay("cut", number)

    def do_graft(self, number, k, rest):
        return self.lay("graft", number, k, self.read(rest, "tree") if rest[:1] == "<" else rest)

    def do_lift(self):
        if not self.edits:
            raise Refused("none")
        self.edits = self.edits[:-1]
        return [f"edits {len(self.edits)}"]

    def do_merge(self):
        self.below, self.edits = self.shown(), []
        return ["merged"]

    def do_rows(self):
        rows = rows_of(self.shown())
        parts = [("names", rows.names), ("labels", rows.labels), ("lasts", rows.lasts), ("fulls", rows.fulls)]
        return [" ".join(map(str, [word, *part])) for word, part in parts]

    def do_box(self):
        rows = rows_of(self.shown())
        return [f"bits {bits_told(rows)}"] + pieces("".join(f"{number:02x}" for number in pack(rows)))


QUESTIONS = [
    "/a", "//*", "//b", "//#", "/a/*[2]", '//#["x"]', '//*["1 <"]', "//*[/#]", "//a//b", "//a/b", "/*/#", "", "//*//*",
    "//*/*", '//b["a b"]', '/a["x', "//A", "/a[0]", "/a b", '//#["\\n"]', '//#["\\""]', "/a" * 13, "/a[1] ",
]
TREES = [
    "v", "x y", "", " ", "<c/>", "<c><d>x</d>y</c>", "<c>", "<c></d>", "<c>&n;</c>", "a<b", "<c/> ",
    "<a>1 &lt; 2<b/></a>", "<",
]
DOCUMENTS = [
    "<a><b>one</b>x<b/><c>a b</c></a>", "<a/>", "<a>1 &lt; 2<b><c/>x</b></a>", "<a><b></a>", "<a>", "a", "",
    "<a><b>x</b><b>y</b><c><d/></c>z</a>",
]
BOXES = [
    ["<a>x\ny</a>", ("a", ["x\ny"])], ["nested", ("a", [("b", ['"\n', ("c", ["\\"])]), "\n&\n"])], ["one", ("q", [])],
]


def drawn_line(dice):
    """A line of any kind, which may be refused."""
    word = dice.choice([*(form.split(" ")[0] for form in TABLE), "graft", "graft", "rename", "cut", "find", "lift"])
    number = dice.choice([str(dice.randrange(8))] * 8 + ["60", "00", "01", "", "-1", "+1", "99999", "123456", "x"])
    place = dice.choice(["0", "1", "2", "0", "1", "7", "01"])
    rest = {
        "text": [*DOCUMENTS, "<a>", "</a>", "x", " ", "", "0a", "f"], "find": QUESTIONS,
        "where": ["", "x", "a b", " ", "o", "<"],
        "alike": [dice.choice(QUESTIONS) + dice.choice([" ", " ", " ", "  ", ""]) + dice.choice(QUESTIONS)],
        "rename": ["a", "b", "c", "dd", "A", "", "a b"], "retext": ["t", "u v", "", " ", "<&>"], "graft": TREES,
    }.get(word)
    words = {"node": [number], "cut": [number], "rename": [number], "retext": [number],
        "graft": [number, place]}.get(word, [])
    line = " ".join([word, *words, *([dice.choice(rest)] if rest else [])])
    changed = dice.randrange(40)
    return {0: line + " ", 1: " " + line, 2: line.partition(" ")[0], 3: line.upper(), 4: line + " x",
        5: ""}.get(changed, line)

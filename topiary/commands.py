"""What the lines of a desk do, and what it answers to them (point 51)."""

from topiary.alike import compare
from topiary.box import unpack
from topiary.errors import FilteredQuestion, InvalidBox, InvalidEdit, InvalidPlace, InvalidQuestion, TextError, TooLarge
from topiary.finder import Finder
from topiary.layers import Layers
from topiary.plain import nodes_of
from topiary.questions import read_question
from topiary.reader import read_document
from topiary.report import box_lines, node_line, rows_lines, show_lines
from topiary.rows import tree_of

MOST_STRINGS = 300
HEX_DIGITS = "0123456789abcdef"


def refused(reason):
    """Return the answer to a line that is refused."""
    return [f"refused {reason}"]


def _end_of_first(questions):
    """Return where the first of two questions ends: at the first space that stands in no string."""
    is_in_string = False
    at = 0
    while at < len(questions) and (is_in_string or questions[at] != " "):
        if questions[at] == '"':
            is_in_string = not is_in_string
        elif questions[at] == "\\" and is_in_string:
            at += 1
        at += 1
    return at


def _alike_answer(questions):
    """Tell whether two questions find the same nodes in all documents."""
    end = _end_of_first(questions)
    try:
        first = read_question(questions[:end])
        second = read_question(questions[end + 1:])
        kind, shown = compare(first, second)
    except InvalidQuestion as error:
        return refused(f"question {error.column} {error.reason}")
    except FilteredQuestion:
        return refused("filter")
    return [kind] if kind == "alike" else [" ".join([kind, *shown])]


def _where_answer(tree, string):
    """Tell where a string stands in the texts of a document."""
    nodes = nodes_of(tree)
    numbers = [number for number, node in enumerate(nodes) if isinstance(node, str)]
    finder = Finder([nodes[number] for number in numbers])
    return [f"{numbers[at]} {place}" for at, place in finder.where(string)]


class Work:
    """What a desk keeps: a draft, and layers of the document that has been loaded, if one has.

    There is a method for each line; it is passed the line's numbers, and what stands behind them.
    """

    def __init__(self):
        self._draft = []
        self._layers = None
        self._commands = {
            "text": self._text,
            "drop": self._drop,
            "load": self._load,
            "unbox": self._unbox,
            "show": self._show,
            "node": self._node,
            "find": self._find,
            "where": self._where,
            "alike": self._alike,
            "rename": self._rename,
            "retext": self._retext,
            "cut": self._cut,
            "graft": self._graft,
            "lift": self._lift,
            "merge": self._merge,
            "rows": self._rows,
            "box": self._box,
        }

    def obey(self, word, numbers, rest):
        """Do what a line asks for that begins with the word, and return the answer."""
        command = self._commands[word]
        return command(numbers, rest)

    def shown(self):
        """Return the shown document, or None."""
        return None if self._layers is None else self._layers.shown()

    def has_document(self):
        """Return True if a document has been loaded."""
        return self._layers is not None

    def _text(self, _, rest):
        """Add a string to the draft."""
        if len(self._draft) == MOST_STRINGS:
            return refused("full")
        self._draft.append(rest)
        return [f"lines {len(self._draft)}"]

    def _drop(self, _, rest):
        """Empty the draft."""
        self._draft = []
        return ["dropped"]

    def _begin(self, tree):
        """Load a document, and return the answer."""
        self._layers = Layers(tree)
        self._draft = []
        return [f"loaded {len(nodes_of(tree))}"]

    def _load(self, _, rest):
        """Load the document of which the draft is the text."""
        try:
            tree = read_document("".join(self._draft))
        except TextError as error:
            return refused(f"text {error.line} {error.column} {error.reason}")
        except TooLarge:
            return refused("large")
        return self._begin(tree)

    def _unbox(self, _, rest):
        """Load the document of which the draft writes the box."""
        digits = "".join(self._draft)
        if len(digits) & 1 == 1 or any([digit not in HEX_DIGITS for digit in digits]):
            return refused("digits")
        try:
            rows = unpack(list(bytes.fromhex(digits)))
        except InvalidBox:
            return refused("box")
        return self._begin(tree_of(rows))

    def _show(self, _, rest):
        """Show the text of the shown document."""
        return show_lines(self._layers.shown())

    def _node(self, numbers, rest):
        """Tell a node of the shown document."""
        try:
            return [node_line(self._layers.shown(), numbers[0])]
        except InvalidPlace:
            return refused("node")

    def _find(self, _, rest):
        """Tell the nodes that a question finds."""
        try:
            question = read_question(rest)
        except InvalidQuestion as error:
            return refused(f"question {error.column} {error.reason}")
        found = self._layers.find(question)
        return [" ".join(["found", str(len(found)), *[str(node) for node in found]])]

    def _where(self, _, rest):
        """Tell where a string stands in the texts."""
        return _where_answer(self._layers.shown(), rest)

    def _alike(self, _, rest):
        """Compare two questions."""
        return _alike_answer(rest)

    def _edit(self, edit):
        """Lay an edit above, and return the answer."""
        try:
            self._layers.lay(edit)
        except InvalidEdit as error:
            return refused(f"edit {error.reason}")
        return self._told_edits()

    def _told_edits(self):
        """Return the line that tells how many edits there are."""
        return [f"edits {len(self._layers.edits())}"]

    def _rename(self, numbers, rest):
        """Give an element another name."""
        return self._edit(("rename", numbers[0], rest))

    def _retext(self, numbers, rest):
        """Make a text another one."""
        return self._edit(("retext", numbers[0], rest))

    def _cut(self, numbers, rest):
        """Leave out a node, with all within it."""
        return self._edit(("cut", numbers[0]))

    def _graft(self, numbers, rest):
        """Put in an element, or a text."""
        tree = rest
        if rest.startswith("<"):
            try:
                tree = read_document(rest)
            except TextError as error:
                return refused(f"tree {error.line} {error.column} {error.reason}")
        return self._edit(("graft", numbers[0], numbers[1], tree))

    def _lift(self, _, rest):
        """Take away the last edit."""
        if self._layers.lift() is None:
            return refused("none")
        return self._told_edits()

    def _merge(self, _, rest):
        """Make the shown document the one below."""
        self._layers.merge()
        return ["merged"]

    def _rows(self, _, rest):
        """Tell the rows of the shown document."""
        return rows_lines(self._layers.rows())

    def _box(self, _, rest):
        """Tell the box of the shown document."""
        return box_lines(self._layers.rows())

"""The lines in which a desk answers (points 51 and 52)."""

from topiary.box import bits_told, pack
from topiary.plain import children_of, node_at, parent_of
from topiary.questions import quoted_string
from topiary.writer import write_document

PIECE_SIGNS = 100
WRITTEN_NEWLINE = "&n;"


def pieces_of(text, size):
    """Return the text cut into strings of so many characters, the last one perhaps shorter."""
    return [text[start:start + size] for start in range(0, len(text), size)]


def quoted(text):
    """Return the text as a question writes it, between quotes."""
    return quoted_string(text)


def show_lines(tree):
    """Return the lines that show a document."""
    return pieces_of(write_document(tree).replace("\n", WRITTEN_NEWLINE), PIECE_SIGNS)


def _line_of(word, numbers):
    """Return a line of a word and of numbers behind it."""
    return " ".join([word, *[str(number) for number in numbers]])


def rows_lines(rows):
    """Return the lines that tell the rows of a document."""
    return [
        " ".join(["names", *rows.names]),
        _line_of("labels", rows.labels),
        _line_of("lasts", rows.lasts),
        _line_of("fulls", rows.fulls),
    ]


def box_lines(rows):
    """Return the lines that tell the box of the document of the rows."""
    return [f"bits {bits_told(rows)}", *pieces_of(bytes(pack(rows)).hex(), PIECE_SIGNS)]


def node_line(tree, node):
    """Return the line that tells a node of a document."""
    found = node_at(tree, node)
    parent = parent_of(tree, node)
    above = "" if parent is None else f" under {parent}"
    if isinstance(found, str):
        return f"text{above} {quoted(found)}"
    children = children_of(tree, node)
    below = " " + _line_of("children", children) if children else ""
    return found[0] + above + below

"""Reading documents from texts (points 18 and 19)."""

from topiary.errors import TextError, TooLarge
from topiary.plain import MOST_DEPTH, MOST_NODES, NAME_LETTERS, TEXT_CHARACTERS
from topiary.signs import is_letter, is_sign

MOST_CHARACTERS = 200000

# How the signs that stand in tags are written in texts.
WRITTEN_SIGNS = (("&lt;", "<"), ("&gt;", ">"), ("&amp;", "&"))


def _refuse(text, place, reason):
    """Raise the error of a place for this reason, or for one that comes ahead of all others."""
    if place == len(text):
        reason = "open"
    elif not is_sign(text[place]):
        reason = "character"
    line = text.count("\n", 0, place) + 1
    column = place - text.rfind("\n", 0, place)
    raise TextError(line, column, reason)


class Reading:
    """A text that is read, from the left to the right, as the text of a document."""

    def __init__(self, source):
        self.source = source
        # The place up to which the text has been read.
        self.reached = 0
        self.nodes = 0
        # The elements that are open, behind an outside whose only child is the root.
        self.stack = [("", [])]

    def begins(self, word):
        """Return True if the word stands where reading goes on."""
        return self.source.startswith(word, self.reached)

    def read_root(self):
        """Read the tag with which the document begins."""
        if not self.begins("<"):
            _refuse(self.source, self.reached, "element")
        self.read_begin_tag()

    def read_part(self):
        """Read what comes next in the innermost open element: a tag or a whole text."""
        if self.begins("</"):
            self.read_end_tag()
        elif self.begins("<"):
            self.read_begin_tag()
        else:
            self.read_text()

    def read_begin_tag(self):
        """Read `<NAME>` or `<NAME/>`."""
        # At the end of the text it is not known whether `<` begins an element or an end tag.
        if self.reached + 1 == len(self.source):
            _refuse(self.source, self.reached + 1, "open")
        self.count_node()
        element = (self.read_name(self.reached + 1), [])
        self.stack[-1][1].append(element)
        if self.begins("/"):
            self.reached += 1
        else:
            self.stack.append(element)
        self.read_tag_end()

    def read_end_tag(self):
        """Read `</NAME>`."""
        start = self.reached + 2
        name = self.read_name(start)
        due = self.stack[-1][0]
        # Where the text ends within the name that is due, all that stands there is right so far.
        is_cut = self.reached == len(self.source) and due.startswith(name)
        if name != due and not is_cut:
            _refuse(self.source, start, "end")
        self.read_tag_end()
        self.stack.pop()

    def read_name(self, start):
        """Read the name that begins at the place, and return it."""
        place = start
        while place < len(self.source) and is_letter(self.source[place]):
            place += 1
        if not 1 <= place - start <= NAME_LETTERS:
            _refuse(self.source, start, "name")
        self.reached = place
        return self.source[start:place]

    def read_tag_end(self):
        """Read `>`."""
        if not self.begins(">"):
            _refuse(self.source, self.reached, "tag")
        self.reached += 1

    def read_text(self):
        """Read a text up to the tag behind it."""
        signs = []
        while not self.begins("<"):
            written, sign = self.next_sign()
            if len(signs) == TEXT_CHARACTERS:
                _refuse(self.source, self.reached, "long")
            if not signs:
                self.count_node()
            signs.append(sign)
            self.reached += len(written)
        self.stack[-1][1].append("".join(signs))

    def next_sign(self):
        """Return how the next sign of a text is written, and the sign."""
        for written, sign in WRITTEN_SIGNS:
            if self.begins(written):
                return written, sign
        place = self.reached
        if place == len(self.source) or not is_sign(self.source[place]) or self.source[place] in "&>":
            _refuse(self.source, place, "sign")
        return self.source[place], self.source[place]

    def count_node(self):
        """Count the node that begins where reading goes on."""
        # The outside is on the stack, too, and makes up for the node itself.
        if len(self.stack) > MOST_DEPTH:
            _refuse(self.source, self.reached, "deep")
        if self.nodes == MOST_NODES:
            _refuse(self.source, self.reached, "many")
        self.nodes += 1


def read_document(text):
    """Return the document of which this is the text."""
    if len(text) > MOST_CHARACTERS:
        raise TooLarge("text")
    reading = Reading(text)
    reading.read_root()
    while len(reading.stack) > 1:
        reading.read_part()
    if reading.reached < len(text):
        _refuse(text, reading.reached, "more")
    return reading.stack[0][1][0]

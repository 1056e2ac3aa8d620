"""A desk that obeys lines (points 51 to 53)."""

from topiary.commands import Work, refused
from topiary.errors import InvalidLine

MOST_SIGNS = 200
MOST_DIGITS = 5
# For the first word of a line: how many numbers stand behind it, and whether REST does.
FORMS = {
    "text": (0, True),
    "drop": (0, False),
    "load": (0, False),
    "unbox": (0, False),
    "show": (0, False),
    "node": (1, False),
    "find": (0, True),
    "where": (0, True),
    "alike": (0, True),
    "rename": (1, True),
    "retext": (1, True),
    "cut": (1, False),
    "graft": (2, True),
    "lift": (0, False),
    "merge": (0, False),
    "rows": (0, False),
    "box": (0, False),
}
WITHOUT_DOCUMENT = ("text", "drop", "load", "unbox")


def _is_line(line):
    """Return True if a desk can take the line."""
    return len(line) <= MOST_SIGNS and all(" " <= sign <= "~" for sign in line)


def _is_number(word):
    """Return True if the word is a number of few digits, without a zero in front."""
    return word.isdigit() and len(word) <= MOST_DIGITS and (word == "0" or word[0] != "0")


class Desk:
    """A desk keeps a draft and layers of a document, and answers to lines."""

    def __init__(self):
        self._work = Work()
        self._lines = []

    def obey(self, line):
        """Return the answer to a line, a list of lines."""
        if not _is_line(line):
            raise InvalidLine(line)
        answer = self._answer(line.split(" "))
        self._lines.append(line)
        return answer

    def _answer(self, words):
        """Do what a line of these words asks for, and return the answer."""
        word = words[0]
        if word not in FORMS:
            return refused("word")
        many, has_rest = FORMS[word]
        numbers = words[1:many + 1]
        rest = words[many + 1:]
        if len(numbers) < many or (rest and not has_rest):
            return refused("count")
        if word not in WITHOUT_DOCUMENT and not self._work.has_document():
            return refused("none")
        if not all([_is_number(number) for number in numbers]):
            return refused("number")
        return self._work.obey(word, [int(number) for number in numbers], " ".join(rest))

    def lines(self):
        """Return the list of all lines that were given to obey without an error."""
        return list(self._lines)

    def shown(self):
        """Return the shown document, or None."""
        return self._work.shown()


def answers_of(lines):
    """Return the list of the answers of a new desk to these lines."""
    desk = Desk()
    return [desk.obey(line) for line in lines]

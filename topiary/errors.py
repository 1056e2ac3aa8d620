"""The errors that Topiary raises: each kind of failure is a class of its own (point 4)."""


class TopiaryError(ValueError):
    """The base class of all errors of the program."""


class TextError(TopiaryError):
    """A text is not the text of a document; lines and columns count from 1."""

    def __init__(self, line, column, reason):
        self.line = line
        self.column = column
        self.reason = reason


class InvalidRows(TopiaryError):
    """Lists are not the rows of a document."""

    def __init__(self, row, reason):
        self.row = row
        self.reason = reason


class InvalidStretch(TopiaryError):
    """A pair of numbers is no stretch of a row."""

    def __init__(self, first, behind):
        self.first = first
        self.behind = behind


class InvalidQuestion(TopiaryError):
    """A text is not the text of a question; columns count from 1."""

    def __init__(self, column, reason):
        self.column = column
        self.reason = reason


class NotTurned(TopiaryError):
    """A list of integers is the turned row of no row."""

    def __init__(self, reason, number):
        self.reason = reason
        self.number = number


class TooLarge(TopiaryError):
    """Something is larger than the limit that is named."""

    def __init__(self, limit):
        self.limit = limit


class InvalidEdit(TopiaryError):
    """An edit is refused."""

    def __init__(self, reason):
        self.reason = reason


class InvalidRow(TopiaryError):
    """At a place of a list stands what may not stand there."""

    def __init__(self, place):
        self.place = place


class InvalidPlace(TopiaryError):
    """There is no such place, row or node."""

    def __init__(self, place):
        self.place = place


class InvalidSize(TopiaryError):
    """A row of symbols cannot have this size."""

    def __init__(self, size):
        self.size = size


class InvalidSymbol(TopiaryError):
    """A number is no symbol of a row of symbols."""

    def __init__(self, symbol):
        self.symbol = symbol


class InvalidLine(TopiaryError):
    """A desk cannot take this line."""

    def __init__(self, line):
        self.line = line


class InvalidText(TopiaryError):
    """The text with this number has a character that may not stand in it."""

    def __init__(self, number):
        self.number = number


class UnknownText(TopiaryError):
    """There is no text with this number."""

    def __init__(self, number):
        self.number = number


class FilteredQuestion(TopiaryError):
    """The question with this number is improper or has a filter."""

    def __init__(self, number):
        self.number = number


class InvalidDocument(TopiaryError):
    """A tree is no document."""

    def __init__(self):
        super().__init__("the tree is no document")


class ImproperQuestion(TopiaryError):
    """A question is improper."""

    def __init__(self):
        super().__init__("the question is improper")


class InvalidStep(TopiaryError):
    """The step of a finder is below 1."""

    def __init__(self):
        super().__init__("the step is below 1")


class InvalidPart(TopiaryError):
    """Two numbers are not the start and the end of a part of a text."""

    def __init__(self):
        super().__init__("there is no such part of the text")


class InvalidBox(TopiaryError):
    """A list of numbers is the box of no document."""

    def __init__(self):
        super().__init__("the list is the box of no document")


class InvalidCounts(TopiaryError):
    """A count is below 0."""

    def __init__(self):
        super().__init__("a count is below 0")


class InvalidLengths(TopiaryError):
    """The lengths of a code are not full."""

    def __init__(self):
        super().__init__("the lengths are not full")

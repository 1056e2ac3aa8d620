"""Questions, and how they are written as texts (points 29, 32 and 33)."""

from topiary.errors import InvalidQuestion
from topiary.plain import NAME_LETTERS, is_name
from topiary.signs import has_only_signs, is_letter

MOST_STEPS = 12
MOST_NESTED = 3
MOST_PLACE = 5000
STRING_SIGNS = 40
AXES = {"child": "/", "below": "//"}
OTHER_TESTS = ("*", "#")
# What stands behind a backslash in a string, and the sign that is meant.
ESCAPED = {'"': '"', "\\": "\\", "n": "\n"}


def _is_filter(axis, kind, value):
    """Return True if nothing is wrong with a filter but, perhaps, a question in it."""
    if kind == "place":
        return axis == "child" and 1 <= value <= MOST_PLACE
    if kind == "holds":
        return 1 <= len(value) <= STRING_SIGNS and has_only_signs(value)
    return kind == "has"


def _is_step(axis, test, filters):
    """Return True if nothing is wrong with a step but, perhaps, questions in its filters."""
    if axis not in AXES or not (is_name(test) or test in OTHER_TESTS):
        return False
    return all(_is_filter(axis, kind, value) for kind, value in filters)


def is_proper(question):
    """Return True if the question is proper."""
    many = 0
    waiting = [(question, 1)]
    while waiting:
        steps, nested = waiting.pop()
        many += len(steps)
        if not steps or many > MOST_STEPS or nested > MOST_NESTED:
            return False
        for axis, test, filters in steps:
            if not _is_step(axis, test, filters):
                return False
            waiting.extend([(value, nested + 1) for kind, value in filters if kind == "has"])
    return True


def quoted_string(string):
    """Return a string as a question has it between its quotes, with these."""
    # The backslash comes first, or those that are put ahead of other signs would be doubled.
    written = string.replace("\\", "\\\\").replace('"', '\\"').replace("\n", "\\n")
    return f'"{written}"'


def _written_filter(kind, value):
    """Return the text of a filter without its brackets."""
    if kind == "place":
        return str(value)
    if kind == "holds":
        return quoted_string(value)
    return write_question(value)


def write_question(question):
    """Return the text of a proper question."""
    parts = []
    for axis, test, filters in question:
        parts.append(AXES[axis] + test)
        for kind, value in filters:
            parts.append(f"[{_written_filter(kind, value)}]")
    return "".join(parts)


class QuestionReading:
    """A text that is read, from the left to the right, as the text of a question."""

    def __init__(self, source):
        self.source = source
        # The place up to which the text has been read.
        self.reached = 0
        self.many_steps = 0

    def begins(self, word):
        """Return True if the word stands where reading goes on."""
        return self.source.startswith(word, self.reached)

    def sign(self):
        """Return the sign with which reading goes on, which at the end of the text is empty."""
        return self.source[self.reached:self.reached + 1]

    def read_steps(self, nested):
        """Read a question that is nested so deep."""
        steps = [self.read_step(nested)]
        while self.begins("/"):
            steps.append(self.read_step(nested))
        return steps

    def read_step(self, nested):
        """Read a step of a question that is nested so deep."""
        if not self.begins("/"):
            raise InvalidQuestion(self.reached + 1, "step")
        if self.many_steps == MOST_STEPS:
            raise InvalidQuestion(self.reached + 1, "steps")
        if nested > MOST_NESTED:
            raise InvalidQuestion(self.reached + 1, "deep")
        self.many_steps += 1
        axis = "below" if self.begins("//") else "child"
        self.reached += len(AXES[axis])
        test = self.read_test()
        filters = []
        while self.begins("["):
            filters.append(self.read_filter(axis, nested))
        return (axis, test, filters)

    def read_test(self):
        """Read a name, `*` or `#`."""
        start = self.reached
        if self.sign() in OTHER_TESTS:
            self.reached += 1
            return self.source[start]
        while is_letter(self.sign()):
            self.reached += 1
        if not 1 <= self.reached - start <= NAME_LETTERS:
            raise InvalidQuestion(start + 1, "test")
        return self.source[start:self.reached]

    def read_filter(self, axis, nested):
        """Read a filter in its brackets."""
        self.reached += 1
        if self.begins("/"):
            told = ("has", self.read_steps(nested + 1))
        elif self.begins('"'):
            told = ("holds", self.read_string())
        elif "1" <= self.sign() <= "9":
            told = ("place", self.read_number(axis))
        else:
            raise InvalidQuestion(self.reached + 1, "filter")
        if not self.begins("]"):
            raise InvalidQuestion(self.reached + 1, "close")
        self.reached += 1
        return told

    def read_number(self, axis):
        """Read a number, which in a step with the axis below may not stand."""
        start = self.reached
        while "0" <= self.sign() <= "9":
            self.reached += 1
        digits = self.source[start:self.reached]
        # A long row of digits is not made a number, for which Python sets a limit.
        if axis == "below" or len(digits) > len(str(MOST_PLACE)) or int(digits) > MOST_PLACE:
            raise InvalidQuestion(start + 1, "number")
        return int(digits)

    def read_string(self):
        """Read a string between its quotes."""
        start = self.reached
        signs = []
        self.reached += 1
        while self.reached < len(self.source) and not self.begins('"'):
            signs.append(self.read_string_sign())
        if not self.begins('"') or not 1 <= len(signs) <= STRING_SIGNS:
            raise InvalidQuestion(start + 1, "string")
        self.reached += 1
        return "".join(signs)

    def read_string_sign(self):
        """Read a sign of a string, written with a backslash or without one."""
        if self.begins("\\"):
            self.reached += 1
            # Behind the last sign of the text stands none that is wrong: the string does not end.
            if self.reached == len(self.source):
                return ""
            sign = ESCAPED.get(self.sign())
        else:
            sign = self.sign() if " " <= self.sign() <= "~" else None
        if sign is None:
            raise InvalidQuestion(self.reached + 1, "sign")
        self.reached += 1
        return sign


def read_question(text):
    """Return the question of which this is the text."""
    reading = QuestionReading(text)
    question = reading.read_steps(1)
    if reading.reached < len(text):
        raise InvalidQuestion(reading.reached + 1, "end")
    return question

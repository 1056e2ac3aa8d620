"""Reading the lists for which a row of bits may have been written (point 49)."""

from topiary.codes import in_code_order, many_of_each
from topiary.errors import InvalidBox
from topiary.plain import MOST_NODES
from topiary.rows import Rows
from topiary.signs import LETTERS
from topiary.streams import LETTER_BITS, SIGNS, text_of


class CodeTable:
    """The symbols of a code in the order of their rows of bits, and how many have each length.

    Lengths that are not full make a table, too: what is read with it is not what is written again.
    """

    def __init__(self, lengths):
        self.symbols = in_code_order(lengths)
        self.many = many_of_each(lengths)
        self.longest = max(lengths)


class BoxReading:
    """A row of bits that is read from the left to the right."""

    def __init__(self, bits):
        self._bits = bits
        self._reached = 0

    def read_bits(self, many):
        """Read so many bits."""
        first = self._reached
        self._reached += many
        if self._reached > len(self._bits):
            raise InvalidBox()
        return self._bits[first:self._reached]

    def read_number(self, many):
        """Read an integer of so many binary digits."""
        number = 0
        for bit in self.read_bits(many):
            number = 2 * number + bit
        return number

    def read_steps(self):
        """Read an integer that is written in steps."""
        zeros = 0
        while self.read_number(1) == 0:
            zeros += 1
            # No integer in a box is above the number of nodes, so huge ones are not made at all.
            if zeros > MOST_NODES.bit_length():
                raise InvalidBox()
        return (1 << zeros) + self.read_number(zeros) - 1

    def read_letter(self):
        """Read a letter of a name."""
        number = self.read_number(LETTER_BITS)
        if number >= len(LETTERS):
            raise InvalidBox()
        return LETTERS[number]

    def read_name(self):
        """Read a name behind its length."""
        return "".join([self.read_letter() for _ in range(self.read_steps())])

    def read_code(self, size):
        """Read the lengths of the code for so many symbols."""
        return CodeTable([self.read_steps() for _ in range(size)])

    def read_symbol(self, code):
        """Read a symbol that is written in a code."""
        # The rows of one length that are no beginnings come first; what is ahead counts from there.
        ahead = 0
        shorter = 0
        for length in range(1, code.longest + 1):
            ahead = 2 * ahead + self.read_number(1)
            many = code.many.get(length, 0)
            if ahead < many:
                return code.symbols[shorter + ahead]
            ahead -= many
            shorter += many
        raise InvalidBox()

    def read_text(self, code):
        """Read a text behind its length."""
        return text_of([self.read_symbol(code) for _ in range(self.read_steps())])


def rows_in(bits):
    """Return the lists with which the bits begin. They may be the rows of no document."""
    reading = BoxReading(bits)
    names = [reading.read_name() for _ in range(reading.read_steps())]
    size = reading.read_steps()
    code = reading.read_code(len(names) + 1)
    labels = [reading.read_symbol(code) for _ in range(size)]
    lasts = reading.read_bits(size)
    fulls = reading.read_bits(size)
    code = reading.read_code(SIGNS)
    texts = [reading.read_text(code) for _ in range(labels.count(0))]
    return Rows(names, labels, lasts, fulls, texts)

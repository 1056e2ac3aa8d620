"""Boxes: the rows of documents packed into lists of small numbers (points 49 and 50)."""

from topiary.codes import code_of, lengths_of, steps_of
from topiary.errors import InvalidBox
from topiary.judge import judge_rows
from topiary.signs import LETTERS
from topiary.streams import LETTER_BITS, SIGNS, bits_of, counts_of, symbol_of
from topiary.unboxing import rows_in

NUMBER_BITS = 8
MOST_NUMBERS = 40000


def _counts_of_labels(rows):
    """Return how often each label stands in the rows."""
    return counts_of(rows.labels, len(rows.names) + 1)


def _counts_of_signs(rows):
    """Return how often each sign stands in all texts."""
    return counts_of([symbol_of(sign) for text in rows.texts for sign in text], SIGNS)


def _bits_of_names(names):
    """Return the bits of the number of names, and of the names."""
    bits = steps_of(len(names))
    for name in names:
        bits.extend(steps_of(len(name)))
        for letter in name:
            bits.extend(bits_of(LETTERS.index(letter), LETTER_BITS))
    return bits


def _code_for(counts):
    """Return the code for counts, and the bits that tell its lengths."""
    lengths = lengths_of(counts)
    bits = []
    for length in lengths:
        bits.extend(steps_of(length))
    return code_of(lengths), bits


def _bits_of_labels(rows):
    """Return the bits of the code for the labels, and of the labels in it."""
    code, bits = _code_for(_counts_of_labels(rows))
    for label in rows.labels:
        bits.extend(code[label])
    return bits


def _bits_of_texts(rows):
    """Return the bits of the code for the signs, and of the texts in it."""
    code, bits = _code_for(_counts_of_signs(rows))
    for text in rows.texts:
        bits.extend(steps_of(len(text)))
        for sign in text:
            bits.extend(code[symbol_of(sign)])
    return bits


def stream_of(rows):
    """Return the row of bits as which the rows of a document are written."""
    return [
        *_bits_of_names(rows.names),
        *steps_of(len(rows.labels)),
        *_bits_of_labels(rows),
        *rows.lasts,
        *rows.fulls,
        *_bits_of_texts(rows),
    ]


def _many_in_steps(numbers):
    """Return how many bits integers have that are written in steps."""
    return sum([2 * (number + 1).bit_length() - 1 for number in numbers])


def _many_in_code(counts):
    """Return how many bits the lengths of the code for counts have, and the symbols that were counted."""
    lengths = lengths_of(counts)
    return _many_in_steps(lengths) + sum([count * length for count, length in zip(counts, lengths)])


def bits_told(rows):
    """Return the number of the bits as which the rows are written, without making them."""
    names = [len(name) for name in rows.names]
    many = len(rows.labels)
    return (
        _many_in_steps([len(names), *names, many])
        + LETTER_BITS * sum(names)
        + _many_in_code(_counts_of_labels(rows))
        + 2 * many
        + _many_in_code(_counts_of_signs(rows))
        + _many_in_steps([len(text) for text in rows.texts])
    )


def pack(rows):
    """Return the box of the document of the rows."""
    bits = stream_of(rows)
    bits.extend([0] * (-len(bits) % NUMBER_BITS))
    numbers = []
    for first in range(0, len(bits), NUMBER_BITS):
        number = 0
        for bit in bits[first:first + NUMBER_BITS]:
            number = 2 * number + bit
        numbers.append(number)
    return numbers


def unpack(numbers):
    """Return the rows of the document whose box the list is."""
    if len(numbers) > MOST_NUMBERS or any([not 0 <= number < 1 << NUMBER_BITS for number in numbers]):
        raise InvalidBox()
    bits = []
    for number in numbers:
        bits.extend(bits_of(number, NUMBER_BITS))
    rows = rows_in(bits)
    # Only the rows of a document can be packed, which tells other lengths of codes and bits behind.
    if judge_rows(rows) is not None or pack(rows) != numbers:
        raise InvalidBox()
    return rows

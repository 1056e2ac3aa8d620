"""What the writing and the reading of boxes share: how letters and signs are told (point 49)."""

LETTER_BITS = 5
# The newline is the first sign, the space the second one.
SIGNS = 96
SPACE_SYMBOL = 1
NEWLINE_CODE = 10
SPACE_CODE = 32


def bits_of(number, many):
    """Return so many binary digits of a number, the highest one first."""
    return [(number >> k) & 1 for k in range(many - 1, -1, -1)]


def symbol_of(sign):
    """Return the symbol of a sign of texts."""
    return 0 if sign == "\n" else ord(sign) - SPACE_CODE + SPACE_SYMBOL


def text_of(symbols):
    """Return the text that the symbols of its signs tell."""
    codes = [NEWLINE_CODE if symbol == 0 else symbol - SPACE_SYMBOL + SPACE_CODE for symbol in symbols]
    return bytes(codes).decode("ascii")


def counts_of(symbols, size):
    """Return how often each symbol, from 0 to the size minus 1, stands in a list."""
    counts = [0] * size
    for symbol in symbols:
        counts[symbol] += 1
    return counts

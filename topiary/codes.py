"""Codes without wasted bits, told by their lengths alone, and integers in steps (points 46 to 49)."""

from heapq import heappop, heappush

from topiary.errors import InvalidCounts, InvalidLengths


def _joined_groups(counts, symbols):
    """Return for each group, those of one symbol each first, the number of the group it was joined into."""
    queue = []
    for number, symbol in enumerate(symbols):
        heappush(queue, (counts[symbol], symbol, number))
    joined = [None] * len(symbols)
    while len(queue) > 1:
        weight, head, number = heappop(queue)
        other_weight, other_head, other = heappop(queue)
        joined[number] = joined[other] = len(joined)
        heappush(queue, (weight + other_weight, min(head, other_head), len(joined)))
        joined.append(None)
    return joined


def lengths_of(counts):
    """Return the lengths of the code for the counts of symbols."""
    if any([count < 0 for count in counts]):
        raise InvalidCounts()
    lengths = [0] * len(counts)
    symbols = [symbol for symbol, count in enumerate(counts) if count > 0]
    if len(symbols) == 1:
        lengths[symbols[0]] = 1
        return lengths
    joined = _joined_groups(counts, symbols)
    depths = [0] * len(joined)
    # A group is joined into one with a greater number; the last one is joined into none.
    for number in range(len(joined) - 2, -1, -1):
        depths[number] = depths[joined[number]] + 1
    for number, symbol in enumerate(symbols):
        lengths[symbol] = depths[number]
    return lengths


def many_of_each(lengths):
    """Return how many symbols there are with each length above 0 that occurs."""
    many = {}
    for length in lengths:
        if length > 0:
            many[length] = many.get(length, 0) + 1
    return many


def is_full(lengths):
    """Return True if the lengths come from some counts."""
    if any([length < 0 for length in lengths]):
        return False
    many = many_of_each(lengths)
    if not many or many == {1: 1}:
        return True
    # From the longest rows on, each two make one that is shorter, until there is the empty one alone.
    pairs = 0
    for length in range(max(many), 0, -1):
        ends = pairs + many.get(length, 0)
        if ends & 1 == 1:
            return False
        pairs = ends // 2
    return pairs == 1


def in_code_order(lengths):
    """Return the symbols with a length above 0, in the order of their lengths, then of their own."""
    symbols = [symbol for symbol, length in enumerate(lengths) if length > 0]
    return sorted(symbols, key=lambda symbol: lengths[symbol])


def _next_row(row, length):
    """Return the row of bits that is, as a number, one more, with zeros behind it up to the length."""
    at = len(row) - 1
    # The row of ones alone comes last of all, so that there is a zero.
    while row[at] == 1:
        at -= 1
    return row[:at] + [1] + [0] * (length - at - 1)


def code_of(lengths):
    """Return the list of the rows of bits, one for each symbol, empty for those without."""
    if not is_full(lengths):
        raise InvalidLengths()
    code = [[] for _ in lengths]
    last = None
    for symbol in in_code_order(lengths):
        last = [0] * lengths[symbol] if last is None else _next_row(last, lengths[symbol])
        code[symbol] = last
    return code


def steps_of(number):
    """Return the bits of an integer of at least 0 written in steps."""
    digits = [int(digit) for digit in f"{number + 1:b}"]
    return [0] * (len(digits) - 1) + digits

"""Orders of suffixes, and how far suffixes begin alike (points 9 and 10)."""


def _ranked(codes):
    """Return, for each code, the number of different codes that are less."""
    ranks = {code: rank for rank, code in enumerate(sorted(set(codes)))}
    return [ranks[code] for code in codes]


def _doubled(ranks, width):
    """Return the ranks of suffixes by twice as many items, given those by `width` items."""
    many = len(ranks)
    # Where nothing stands `width` items further on, the rank tells already: the end is in it.
    behind = ranks[width:] + [0] * width
    return _ranked([rank * many + other for rank, other in zip(ranks, behind)])


def inverse(numbers):
    """Return where each number stands in a list of all numbers from 0 to its length less 1."""
    spots = [0] * len(numbers)
    for spot, number in enumerate(numbers):
        spots[number] = spot
    return spots


def order(row):
    """Return all places of a row, its length too, in ascending order of their suffixes."""
    # No item is below 0, so -1 makes an end less than whatever goes on.
    ranks = _ranked([*row, -1])
    width = 1
    while max(ranks) < len(row):
        ranks = _doubled(ranks, width)
        width += width
    return inverse(ranks)


def _alike(row, first, second, many):
    """Return the common length of two suffixes of which `many` items are known to be alike."""
    limit = len(row) - max(first, second)
    while many < limit and row[first + many] == row[second + many]:
        many += 1
    return many


def steps(row, places):
    """Return the common lengths of each two suffixes side by side in the order of a row."""
    spots = inverse(places)
    lengths = [0] * len(row)
    many = 0
    for place in range(len(row)):
        spot = spots[place]
        many = _alike(row, place, places[spot - 1], many)
        lengths[spot - 1] = many
        # Without its first item a suffix has a neighbour that is like it in all but that item.
        many = max(0, many - 1)
    return lengths


def common(row, first, second):
    """Return the common length of the suffixes of a row at two places."""
    # Below 0 there is no suffix, and Python would count from the end.
    if first < 0 or second < 0:
        return 0
    return _alike(row, first, second, 0)

"""Rows of symbols, with ranks, k-th places and stretches (points 7 and 8)."""

from topiary.errors import InvalidPlace, InvalidRow, InvalidSize, InvalidStretch, InvalidSymbol

LARGEST_SIZE = 65536


def _places_by_symbol(row):
    """Return, for each symbol that stands in the row, the ascending list of its places."""
    places = {}
    for place, symbol in enumerate(row):
        places.setdefault(symbol, []).append(place)
    return places


def count_below(places, limit):
    """Return how many items of an ascending list are less than the limit."""
    low = 0
    high = len(places)
    while low < high:
        middle = (low + high) // 2
        if places[middle] < limit:
            low = middle + 1
        else:
            high = middle
    return low


class Wave:
    """A row of symbols that tells how often and where its symbols stand."""

    def __init__(self, row, size):
        if not 1 <= size <= LARGEST_SIZE:
            raise InvalidSize(size)
        for place, symbol in enumerate(row):
            if not 0 <= symbol < size:
                raise InvalidRow(place)
        self.size = size
        self.length = len(row)
        self._symbols = list(row)
        self._places = _places_by_symbol(row)

    def at(self, place):
        """Return the symbol at a place."""
        if not 0 <= place < self.length:
            raise InvalidPlace(place)
        return self._symbols[place]

    def row(self):
        """Return the list of the symbols."""
        return list(self._symbols)

    def rank(self, symbol, i):
        """Return how often the symbol stands at places below i."""
        places = self._places_of(symbol)
        if not 0 <= i <= self.length:
            raise InvalidPlace(i)
        return count_below(places, i)

    def select(self, symbol, k):
        """Return the k-th place of the symbol, k from 0, or None if there is none."""
        places = self._places_of(symbol)
        if k < 0:
            raise InvalidPlace(k)
        return places[k] if k < len(places) else None

    def following(self, symbol, i):
        """Return the first place from i on at which the symbol stands, or None."""
        return self.select(symbol, self.rank(symbol, i))

    def present(self, first, behind):
        """Return the ascending pairs (symbol, times) of the symbols in a stretch."""
        if not 0 <= first <= behind <= self.length:
            raise InvalidStretch(first, behind)
        times = {}
        for symbol in self._symbols[first:behind]:
            times[symbol] = times.get(symbol, 0) + 1
        return [(symbol, times[symbol]) for symbol in sorted(times)]

    def _places_of(self, symbol):
        """Return the places of a symbol; the list is the object's own."""
        if not 0 <= symbol < self.size:
            raise InvalidSymbol(symbol)
        return self._places.get(symbol, [])

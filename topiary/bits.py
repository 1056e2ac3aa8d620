"""Rows of bits, with ranks and k-th places (points 5 and 6)."""

from topiary.errors import InvalidPlace, InvalidRow


def _running_ones(row):
    """Return, for each number from 0 to the length, how many ones stand below it."""
    counts = [0]
    for digit in row:
        counts.append(counts[-1] + digit)
    return counts


class Bits:
    """A row of bits that tells how often and where its digits stand."""

    def __init__(self, row):
        for place, digit in enumerate(row):
            if digit not in (0, 1):
                raise InvalidRow(place)
        self.size = len(row)
        self.ones = sum(row)
        self._digits = list(row)
        self._counts = _running_ones(row)
        self._places = {
            0: [place for place, digit in enumerate(row) if digit == 0],
            1: [place for place, digit in enumerate(row) if digit == 1],
        }

    def at(self, place):
        """Return the digit at a place."""
        if not 0 <= place < self.size:
            raise InvalidPlace(place)
        return self._digits[place]

    def rank(self, i, digit=1):
        """Return how often the digit stands at places below i."""
        if not 0 <= i <= self.size:
            raise InvalidPlace(i)
        if digit == 1:
            return self._counts[i]
        if digit == 0:
            return i - self._counts[i]
        return 0

    def select(self, k, digit=1):
        """Return the k-th place of the digit, k from 0, or None if there is none."""
        if k < 0:
            raise InvalidPlace(k)
        places = self._places.get(digit, [])
        return places[k] if k < len(places) else None

    def row(self):
        """Return the list of the digits."""
        return list(self._digits)

"""Finders: every string within texts, found by their turned row (points 14 and 15)."""

from topiary.bits import Bits
from topiary.errors import InvalidPart, InvalidStep, InvalidText, UnknownText
from topiary.orders import inverse, order
from topiary.signs import has_only_signs
from topiary.turned import items_ahead
from topiary.wave import Wave

# So much less than a character's code is its item, which leaves 0 for the ends of texts.
CODE_SHIFT = 8
# A turned row has -1, a row of symbols begins with 0; the greatest symbol is that of `~`.
SYMBOL_SHIFT = 1
SYMBOLS = 120


def row_of_texts(texts):
    """Return the row of a list of strings: the items of each, and 0 behind it."""
    row = []
    for text in texts:
        row.extend([ord(character) - CODE_SHIFT for character in text])
        row.append(0)
    return row


def _counts_of_less(wave):
    """Return, for each symbol of a row of symbols, how many lesser ones stand in it."""
    counts = [0]
    for symbol in range(wave.size - 1):
        counts.append(counts[-1] + wave.rank(symbol, wave.length))
    return counts


class Finder:
    """Texts in which every string is found, and of which every part can be cut out.

    A place is one of the row of texts; a spot is where it stands in the order of that row.
    """

    def __init__(self, texts, *, step=4):
        for number, text in enumerate(texts):
            if not has_only_signs(text):
                raise InvalidText(number)
        if step < 1:
            raise InvalidStep()
        row = row_of_texts(texts)
        places = order(row)
        self.total = len(texts)
        self._ends = Bits([1 if item == 0 else 0 for item in row])
        self._wave = Wave([item + SYMBOL_SHIFT for item in items_ahead(row, places)], SYMBOLS)
        self._less = _counts_of_less(self._wave)
        self._step = step
        spots = inverse(places)
        kept = range(0, len(row), step)
        self._places = {spots[place]: place for place in kept}
        # The last spot is the one of the place behind all items, from which one can always go.
        self._spots = [spots[place] for place in kept] + [spots[len(row)]]

    def times(self, string):
        """Return how often the string stands in the texts."""
        first, behind = self._spots_of(string)
        return behind - first

    def where(self, string):
        """Return the ascending pairs (text, place in it) at which the string stands."""
        first, behind = self._spots_of(string)
        places = sorted([self._place(spot) for spot in range(first, behind)])
        return [self._within(place) for place in places]

    def holds(self, number, string):
        """Return True if the string stands in the text with the number."""
        return 0 <= number < self.total and string in self.text(number)

    def text(self, number):
        """Return the text with the number."""
        return self.part(number, 0, self.length(number))

    def part(self, number, start, end):
        """Return the characters of a text from start up to, but without, end."""
        length = self.length(number)
        if not 0 <= start <= end <= length:
            raise InvalidPart()
        spot = self._spot(self._begin(number) + end)
        codes = []
        for _ in range(end - start):
            codes.append(self._wave.at(spot) - SYMBOL_SHIFT + CODE_SHIFT)
            spot = self._spot_ahead(spot)
        return bytes(codes[::-1]).decode("ascii")

    def length(self, number):
        """Return the length of the text with the number."""
        if not 0 <= number < self.total:
            raise UnknownText(number)
        return self._ends.select(number) - self._begin(number)

    def turned(self):
        """Return the turned row of the row of texts."""
        return [symbol - SYMBOL_SHIFT for symbol in self._wave.row()]

    def _spots_of(self, string):
        """Return the stretch of the spots of the places at which the string stands."""
        if not has_only_signs(string):
            return 0, 0
        # The spot 0 is the one of the place behind all items, which is in no text.
        first = 1
        behind = self._wave.length
        for character in reversed(string):
            symbol = ord(character) - CODE_SHIFT + SYMBOL_SHIFT
            first = self._less[symbol] + self._wave.rank(symbol, first)
            behind = self._less[symbol] + self._wave.rank(symbol, behind)
        return first, behind

    def _spot_ahead(self, spot):
        """Return the spot of the place that is one less."""
        symbol = self._wave.at(spot)
        return self._less[symbol] + self._wave.rank(symbol, spot)

    def _place(self, spot):
        """Return the place at a spot, told by the next kept place that is not greater."""
        gone = 0
        while spot not in self._places:
            spot = self._spot_ahead(spot)
            gone += 1
        return self._places[spot] + gone

    def _spot(self, place):
        """Return the spot of a place, told by the next kept place that is not less."""
        number = (place + self._step - 1) // self._step
        spot = self._spots[number]
        for _ in range(min(number * self._step, self._ends.size) - place):
            spot = self._spot_ahead(spot)
        return spot

    def _begin(self, number):
        """Return the place at which a text begins."""
        return self._ends.select(number - 1) + 1 if number > 0 else 0

    def _within(self, place):
        """Return the text in which a place is, and where in it."""
        number = self._ends.rank(place)
        return (number, place - self._begin(number))

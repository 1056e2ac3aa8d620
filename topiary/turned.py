"""Turned rows: made from rows, checked, and turned back (points 11 to 13)."""

from topiary.errors import NotTurned
from topiary.orders import inverse, order


def items_ahead(row, places):
    """Return the item ahead of each place of the order of a row, and -1 for the place 0."""
    return [row[place - 1] if place > 0 else -1 for place in places]


def turn(row):
    """Return the turned row of a row."""
    return items_ahead(row, order(row))


def next_place(items, place):
    """Return the next place of a place of a list of integers."""
    item = items[place]
    less = len([other for other in items if other < item])
    return less + items[:place].count(item)


def _next_places(items):
    """Return the next places of all places at once."""
    # Sorting keeps equal items in their order, as counting those ahead does.
    return inverse(sorted(range(len(items)), key=lambda place: items[place]))


def _walk(items):
    """Return the places of the walk of a list with at least one item."""
    following = _next_places(items)
    places = [0]
    # No two places have the same next place, so the walk meets its beginning again first.
    while following[places[-1]] != 0:
        places.append(following[places[-1]])
    return places


def _items_fault(items):
    """Return the number of the fault of the items alone, or None."""
    has_end = False
    for place, item in enumerate(items):
        if item < -1 or (item == -1 and has_end):
            return place
        has_end = has_end or item == -1
    return None if has_end else len(items)


def fault(items):
    """Return the fault of a list of integers, or None if it is a turned row."""
    place = _items_fault(items)
    if place is not None:
        return ("items", place)
    many = len(_walk(items))
    return ("walk", many) if many < len(items) else None


def recover(items):
    """Return the row of which the list of integers is the turned row."""
    found = fault(items)
    if found is not None:
        reason, number = found
        raise NotTurned(reason, number)
    met = [items[place] for place in _walk(items)]
    # The walk meets the row from its end on, and -1 behind its beginning.
    return met[:-1][::-1]

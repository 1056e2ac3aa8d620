"""Nodes under names (point 28)."""

from topiary.moves import name, parent


def _stretch_under(kept, first, behind, names):
    """Return the stretch of the rows that stand, name by name, under rows of a stretch."""
    for word in names:
        first, behind = kept.families_under(first, behind, word)
    return (first, behind)


def rows_under(kept, names):
    """Return the stretch of the rows under the names, (0, 0) if there are none."""
    return _stretch_under(kept, 0, kept.size, names)


def rows_at(kept, names):
    """Return the ascending list of the rows at the names, of which there is at least one."""
    if not names:
        return []
    # From the root alone, not from all rows, each name leads just one step down.
    first, behind = _stretch_under(kept, 0, 1, names[:-1])
    return kept.rows_named(first, behind, names[-1])


def upward(kept, row):
    """Return the names of the nodes above, from the parent to the root."""
    names = []
    above = parent(kept, row)
    while above is not None:
        names.append(name(kept, above))
        above = parent(kept, above)
    return names

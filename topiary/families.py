"""Families: where the children of rows stand (point 23)."""


def _stretches(lasts):
    """Return the stretches of all families, the root's own one first."""
    stretches = []
    first = 0
    for row, last in enumerate(lasts):
        if last == 1:
            stretches.append((first, row + 1))
            first = row + 1
    return stretches


def families_of(labels, lasts, fulls):
    """Return, for each row with children, the stretch of its family.

    There has to be one family more than there are rows with children.
    """
    owners = sorted([(labels[row], row) for row, full in enumerate(fulls) if full == 1])
    return {row: stretch for (_, row), stretch in zip(owners, _stretches(lasts)[1:])}

"""Judging lists that are said to be the rows of a document (points 24 and 25)."""

from topiary.families import families_of
from topiary.plain import MOST_DEPTH, MOST_NODES, is_name, is_text


def _lengths_fault(rows):
    """Return a fault if the lists are of no, or of different, lengths."""
    many = len(rows.labels)
    if many == 0 or len(rows.lasts) != many or len(rows.fulls) != many:
        return (0, "lengths")
    return None


def _numbers_fault(rows):
    """Return the fault of the first number that may not stand where it does."""
    for row, label in enumerate(rows.labels):
        if not 0 <= label <= len(rows.names):
            return (row, "label")
    for row, last in enumerate(rows.lasts):
        if last not in (0, 1):
            return (row, "last")
    for row, full in enumerate(rows.fulls):
        if full not in (0, 1) or (full == 1 and rows.labels[row] == 0):
            return (row, "full")
    return None


def _families_fault(rows):
    """Return a fault if the families cannot be told from the numbers."""
    if rows.labels[0] == 0 or rows.lasts[0] == 0:
        return (0, "root")
    if sum(rows.lasts) != sum(rows.fulls) + 1 or rows.lasts[-1] == 0:
        return (0, "families")
    return None


def _steps_to(rows):
    """Return in how many steps each row is reached that is, the root counted as the first."""
    families = families_of(rows.labels, rows.lasts, rows.fulls)
    steps_to = {0: 1}
    waiting = [0]
    # Each row but the first is in one family, so none is come to twice.
    while waiting:
        row = waiting.pop()
        first, behind = families.get(row, (0, 0))
        for child in range(first, behind):
            steps_to[child] = steps_to[row] + 1
            waiting.append(child)
    return steps_to


def _reach_fault(rows, steps_to):
    """Return the fault of the first row that is not reached."""
    for row in range(len(rows.labels)):
        if row not in steps_to:
            return (row, "reach")
    return None


def _names_fault(rows):
    """Return a fault if the names are not just those of the elements, in order."""
    if not all(is_name(name) for name in rows.names):
        return (0, "names")
    if any(name >= other for name, other in zip(rows.names, rows.names[1:])):
        return (0, "names")
    if len({label for label in rows.labels if label > 0}) < len(rows.names):
        return (0, "names")
    return None


def _texts_fault(rows):
    """Return the fault of the texts, each one on its own."""
    places = [row for row, label in enumerate(rows.labels) if label == 0]
    if len(places) != len(rows.texts):
        return (0, "texts")
    for row, text in zip(places, rows.texts):
        if not is_text(text):
            return (row, "text")
    return None


def _beside_fault(rows):
    """Return the fault of the first text directly behind a text in one family."""
    for row in range(1, len(rows.labels)):
        if rows.labels[row] == 0 and rows.labels[row - 1] == 0 and rows.lasts[row - 1] == 0:
            return (row, "beside")
    return None


def _large_fault(steps_to):
    """Return a fault if there are too many rows, or one is too deep."""
    if len(steps_to) > MOST_NODES or max(steps_to.values()) > MOST_DEPTH:
        return (0, "large")
    return None


def _tree_fault(rows):
    """Return the fault of lists whose families can be told."""
    steps_to = _steps_to(rows)
    return (
        _reach_fault(rows, steps_to)
        or _names_fault(rows)
        or _texts_fault(rows)
        or _beside_fault(rows)
        or _large_fault(steps_to)
    )


def judge_rows(rows):
    """Return None if the lists are the rows of a document, otherwise their fault."""
    return _lengths_fault(rows) or _numbers_fault(rows) or _families_fault(rows) or _tree_fault(rows)

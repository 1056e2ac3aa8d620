"""Moves from row to row of a document that is kept by its rows with counts (points 26 and 27)."""

from topiary.bits import Bits
from topiary.errors import InvalidPlace, InvalidRows
from topiary.judge import judge_rows
from topiary.orders import inverse
from topiary.rows import Rows
from topiary.wave import Wave, count_below


class Kept:
    """A document that is kept by its rows.

    An owner is a row with children. Families stand in the order of the labels of their owners,
    those of owners with one label in the order of these; ahead of them stands the root alone.
    """

    def __init__(self, rows):
        fault = judge_rows(rows)
        if fault is not None:
            row, reason = fault
            raise InvalidRows(row, reason)
        self.size = len(rows.labels)
        self._names = list(rows.names)
        self._texts = list(rows.texts)
        self._numbers = {word: label for label, word in enumerate(rows.names, start=1)}
        self._labels = Wave(rows.labels, len(rows.names) + 1)
        self._lasts = Bits(rows.lasts)
        self._fulls = Bits(rows.fulls)
        # No owner is a text, so that the label 0 is free for the rows that are none.
        owners = [label if full == 1 else 0 for label, full in zip(rows.labels, rows.fulls)]
        self._owners = Wave(owners, len(rows.names) + 1)
        self._owners_less = self._count_owners_less()
        # Gone through once, by moves alone, so that numbers and weights are at hand later.
        self._rows_of_nodes = self._order_rows()
        self._nodes_of_rows = inverse(self._rows_of_nodes)
        self._weights = self._weigh_rows()

    def rows(self):
        """Return the rows of the document."""
        return Rows(self._names, self._labels.row(), self._lasts.row(), self._fulls.row(), self._texts)

    def check(self, number):
        """Raise an error if there is no row, and no node, with this number."""
        if not 0 <= number < self.size:
            raise InvalidPlace(number)

    def name_at(self, row):
        """Return the name of an element, or None for a text."""
        label = self._labels.at(row)
        return self._names[label - 1] if label > 0 else None

    def text_at(self, row):
        """Return the text, or None for an element."""
        return self._texts[self._labels.rank(0, row)] if self._labels.at(row) == 0 else None

    def rows_named(self, first, behind, word):
        """Return the ascending list of the elements in a stretch with this name."""
        label = self._numbers.get(word)
        if label is None:
            return []
        numbers = range(self._labels.rank(label, first), self._labels.rank(label, behind))
        return [self._labels.select(label, number) for number in numbers]

    def families_under(self, first, behind, word):
        """Return the stretch of the children of all elements in a stretch with this name."""
        label = self._numbers.get(word)
        if label is None:
            return (0, 0)
        ahead = self._owners.rank(label, first)
        up_to = self._owners.rank(label, behind)
        if ahead == up_to:
            return (0, 0)
        less = self._owners_less[label]
        return (self._first_of_family(less + ahead), self._first_of_family(less + up_to))

    def siblings_begin(self, row):
        """Return the row of the first node in the family of a row other than 0."""
        return self._first_of_family(self._lasts.rank(row) - 1)

    def owner(self, row):
        """Return the row of the parent of a row other than 0."""
        number = self._lasts.rank(row) - 1
        # Among labels with equal counts it is the last one that has owners at all.
        label = count_below(self._owners_less, number + 1) - 1
        return self._owners.select(label, number - self._owners_less[label])

    def node_of_row(self, row):
        """Return the number of the node of a row."""
        return self._nodes_of_rows[row]

    def row_of_node(self, node):
        """Return the row of a node."""
        return self._rows_of_nodes[node]

    def weigh(self, row):
        """Return the weight of the node of a row."""
        return self._weights[row]

    def _first_of_family(self, number):
        """Return where a family begins, numbers from 0 on without the root alone, or the last one ends."""
        return self._lasts.select(number) + 1

    def _count_owners_less(self):
        """Return, for each label, how many owners have lesser labels."""
        counts = [0, 0]
        for label in range(1, len(self._names)):
            counts.append(counts[-1] + self._owners.rank(label, self.size))
        return counts

    def _order_rows(self):
        """Return the rows in the order of the numbers of their nodes."""
        found = []
        waiting = [0]
        while waiting:
            row = waiting.pop()
            found.append(row)
            first, behind = self.families_under(row, row + 1, self.name_at(row))
            waiting.extend(list(range(first, behind))[::-1])
        return found

    def _weigh_rows(self):
        """Return the weights of all rows."""
        weights = [1] * self.size
        # The nodes within a node have greater numbers, and so are weighed ahead of it.
        for row in self._rows_of_nodes[:0:-1]:
            weights[self.owner(row)] += weights[row]
        return weights


def name(kept, row):
    """Return the name of an element, or None for a text."""
    kept.check(row)
    return kept.name_at(row)


def text(kept, row):
    """Return the text, or None for an element."""
    kept.check(row)
    return kept.text_at(row)


def family(kept, row):
    """Return the stretch of the children, or None if there are none."""
    kept.check(row)
    first, behind = kept.families_under(row, row + 1, kept.name_at(row))
    return (first, behind) if first < behind else None


def child(kept, row, k):
    """Return the row of the child with the place k, or None."""
    stretch = family(kept, row)
    if stretch is None:
        return None
    first, behind = stretch
    return first + k if 0 <= k < behind - first else None


def parent(kept, row):
    """Return the row of the parent, or None for row 0."""
    kept.check(row)
    return kept.owner(row) if row > 0 else None


def place(kept, row):
    """Return the place among the siblings, 0 for row 0."""
    kept.check(row)
    return row - kept.siblings_begin(row) if row > 0 else 0


def depth(kept, row):
    """Return the depth, which is 1 for row 0."""
    kept.check(row)
    deep = 1
    while row > 0:
        row = kept.owner(row)
        deep += 1
    return deep


def weight(kept, row):
    """Return the number of nodes of the tree of which the node of the row is the root."""
    kept.check(row)
    return kept.weigh(row)


def node_of(kept, row):
    """Return the number of the node of a row."""
    kept.check(row)
    return kept.node_of_row(row)


def row_of(kept, node):
    """Return the row of the node with a number."""
    kept.check(node)
    return kept.row_of_node(node)


def _planted(kept, row, trees):
    """Put the tree of the node of a row, as yet without children, behind the trees."""
    tree = kept.text_at(row)
    if tree is None:
        tree = (kept.name_at(row), [])
    trees.append(tree)
    return tree


def subtree(kept, row):
    """Return the tree whose root is the node of the row."""
    kept.check(row)
    trees = []
    waiting = [(row, trees)]
    while waiting:
        at, siblings = waiting.pop()
        tree = _planted(kept, at, siblings)
        stretch = family(kept, at)
        if stretch is not None:
            waiting.extend([(below, tree[1]) for below in range(stretch[1] - 1, stretch[0] - 1, -1)])
    return trees[0]

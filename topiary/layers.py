"""Edits in layers above a document that is kept in rows (points 43 to 45)."""

from topiary.edits import check_edit
from topiary.errors import ImproperQuestion
from topiary.ground import found_in
from topiary.moves import Kept, subtree
from topiary.plain import node_at
from topiary.questions import is_proper
from topiary.rows import rows_of
from topiary.shown import Shown


def _copied(edit):
    """Return an edit that is equal to this one, with a tree of its own."""
    if edit[0] != "graft":
        return edit
    kind, node, k, tree = edit
    return (kind, node, k, node_at(tree, 0))


class Layers:
    """A document below, kept in rows, and edits above it."""

    def __init__(self, tree):
        self._begin(tree)

    def _begin(self, tree):
        """Make the tree the document below, without edits above."""
        self._kept = Kept(rows_of(tree))
        self._edits = []
        self._shown = Shown(self._kept, [(0, 1)])
        # The parts that were shown ahead of each edit. They share what an edit has left alone.
        self._parts_ahead = []

    def lay(self, edit):
        """Lay an edit above."""
        check_edit(self._shown, edit)
        self._edits.append(_copied(edit))
        self._parts_ahead.append(self._shown.parts)
        self._shown = Shown(self._kept, self._shown.parts_behind(edit))

    def lift(self):
        """Take away the last edit and return it, or return None if there is none."""
        if not self._edits:
            return None
        self._shown = Shown(self._kept, self._parts_ahead.pop())
        return self._edits.pop()

    def edits(self):
        """Return the list of the edits above."""
        return [_copied(edit) for edit in self._edits]

    def shown(self):
        """Return the document that is shown."""
        return self._shown.tree()

    def rows(self):
        """Return the rows of the document that is shown."""
        return rows_of(self._shown.tree())

    def find(self, question):
        """Return the ascending list of the nodes that the question finds in what is shown."""
        if not is_proper(question):
            raise ImproperQuestion()
        return found_in(self._shown, self._shown.outside, question)

    def merge(self):
        """Make what is shown the document below, without edits above."""
        self._begin(self._shown.tree())

    def below(self):
        """Return the document below."""
        return subtree(self._kept, 0)

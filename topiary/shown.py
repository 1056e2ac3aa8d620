"""Documents that are shown by rows of a kept document and by what is laid out above them (point 45).

What is shown comes in parts: a stretch (first, behind) of rows of the kept document that are
siblings there, with all that is within them; a text that is laid out; or an element that is.
"""

from topiary.moves import family, subtree
from topiary.wave import count_below


class Laid:
    """An element that is laid out: its name, the parts beneath it, and its weight. It never changes."""

    def __init__(self, word, parts, weight):
        self.word = word
        self.parts = parts
        self.weight = weight


def _weight_of(kept, part):
    """Return the number of the nodes of a part."""
    if isinstance(part, str):
        return 1
    if isinstance(part, Laid):
        return part.weight
    first, behind = part
    return kept.node_of_row(behind - 1) + kept.weigh(behind - 1) - kept.node_of_row(first)


def _many_children(part):
    """Return the number of the children that a part is."""
    return part[1] - part[0] if isinstance(part, tuple) else 1


def _stretch(first, behind):
    """Return the rows as a list of one part, or of none."""
    return [(first, behind)] if first < behind else []


def _laid(kept, word, parts):
    """Return an element with this name and these parts."""
    return Laid(word, parts, 1 + sum([_weight_of(kept, part) for part in parts]))


def _laid_tree(kept, tree):
    """Return the part that a tree is, all of it laid out."""
    if isinstance(tree, str):
        return tree
    word, children = tree
    return _laid(kept, word, [_laid_tree(kept, child) for child in children])


def _laid_element(kept, part):
    """Return the element that a part is, itself laid out."""
    if isinstance(part, Laid):
        return part
    row = part[0]
    stretch = family(kept, row)
    return Laid(kept.name_at(row), [] if stretch is None else [stretch], kept.weigh(row))


def _sibling_with(kept, first, behind, node):
    """Return which one of the rows of a stretch is, or has within it, a node of the kept document."""
    numbers = [kept.node_of_row(row) for row in range(first, behind)]
    return first + count_below(numbers, node + 1) - 1


def _parted(kept, parts, number):
    """Return the parts ahead of a node, the part that begins with it or is above it, and those behind.

    Nodes are counted from 0 through all parts. The number that is left in its part comes last.
    """
    at = 0
    while number >= _weight_of(kept, parts[at]):
        number -= _weight_of(kept, parts[at])
        at += 1
    part = parts[at]
    if not isinstance(part, tuple):
        return parts[:at], part, parts[at + 1:], number
    first, behind = part
    node = kept.node_of_row(first) + number
    row = _sibling_with(kept, first, behind, node)
    left = node - kept.node_of_row(row)
    return parts[:at] + _stretch(first, row), (row, row + 1), _stretch(row + 1, behind) + parts[at + 1:], left


def _grafted(parts, k, part):
    """Return the parts with one more as the child with the place k."""
    at = 0
    while at < len(parts) and k >= _many_children(parts[at]):
        k -= _many_children(parts[at])
        at += 1
    if k == 0:
        return [*parts[:at], part, *parts[at:]]
    first, behind = parts[at]
    return [*parts[:at], (first, first + k), part, (first + k, behind), *parts[at + 1:]]


def _instead(kept, part, edit):
    """Return the parts that stand, behind an edit, where the node stood that it names."""
    kind = edit[0]
    if kind == "cut":
        return []
    if kind == "retext":
        return [edit[2]]
    element = _laid_element(kept, part)
    if kind == "rename":
        return [Laid(edit[2], element.parts, element.weight)]
    return [_laid(kept, element.word, _grafted(element.parts, edit[2], _laid_tree(kept, edit[3])))]


def _changed(kept, parts, number, edit):
    """Return the parts behind an edit, which is one of the node with this number in them."""
    ahead, part, behind, left = _parted(kept, parts, number)
    if left == 0:
        return ahead + _instead(kept, part, edit) + behind
    element = _laid_element(kept, part)
    return [*ahead, _laid(kept, element.word, _changed(kept, element.parts, left - 1, edit)), *behind]


def _trees_of(kept, parts):
    """Return the trees that the parts show."""
    trees = []
    for part in parts:
        if isinstance(part, str):
            trees.append(part)
        elif isinstance(part, Laid):
            trees.append((part.word, _trees_of(kept, part.parts)))
        else:
            trees.extend([subtree(kept, row) for row in range(part[0], part[1])])
    return trees


class Shown:
    """A shown document, of which questions can be asked (as of topiary.ground's Ground)."""

    def __init__(self, kept, parts):
        self._kept = kept
        self.parts = list(parts)
        # The parts that stand in no stretch, in preorder, and the numbers of their first nodes.
        self._pieces = []
        self._starts = []
        self.outside = 0
        waiting = list(parts)
        while waiting:
            piece = waiting.pop()
            self._pieces.append(piece)
            self._starts.append(self.outside)
            if isinstance(piece, Laid):
                self.outside += 1
                waiting.extend(piece.parts[::-1])
            else:
                self.outside += _weight_of(kept, piece)

    def _piece_at(self, number):
        """Return the piece that a node is in, and the number of the node in it."""
        at = count_below(self._starts, number + 1) - 1
        return self._pieces[at], number - self._starts[at]

    def _row_at(self, piece, number):
        """Return the row of the kept document that the node with a number in a stretch is."""
        return self._kept.row_of_node(self._kept.node_of_row(piece[0]) + number)

    def name_at(self, number):
        """Return the name of an element, or None for a text."""
        piece, inner = self._piece_at(number)
        if isinstance(piece, tuple):
            return self._kept.name_at(self._row_at(piece, inner))
        return None if isinstance(piece, str) else piece.word

    def text_at(self, number):
        """Return the text, or None for an element."""
        piece, inner = self._piece_at(number)
        if isinstance(piece, tuple):
            return self._kept.text_at(self._row_at(piece, inner))
        return piece if isinstance(piece, str) else None

    def _parts_beneath(self, context):
        """Return the parts that are the children of a context."""
        if context == self.outside:
            return self.parts
        piece, inner = self._piece_at(context)
        if isinstance(piece, str):
            return []
        if isinstance(piece, Laid):
            return piece.parts
        stretch = family(self._kept, self._row_at(piece, inner))
        return [] if stretch is None else [stretch]

    def children_at(self, context):
        """Return the ascending list of the children of a context."""
        numbers = []
        number = self.span_at(context)[0]
        for part in self._parts_beneath(context):
            if isinstance(part, tuple):
                shift = number - self._kept.node_of_row(part[0])
                numbers.extend([self._kept.node_of_row(row) + shift for row in range(part[0], part[1])])
            else:
                numbers.append(number)
            number += _weight_of(self._kept, part)
        return numbers

    def span_at(self, context):
        """Return the stretch of the nodes beneath a context."""
        if context == self.outside:
            return (0, self.outside)
        piece, inner = self._piece_at(context)
        if isinstance(piece, tuple):
            return (context + 1, context + self._kept.weigh(self._row_at(piece, inner)))
        return (context + 1, context + _weight_of(self._kept, piece))

    def parts_behind(self, edit):
        """Return the parts of what is shown behind an edit that is not refused."""
        return _changed(self._kept, self.parts, edit[1], edit)

    def tree(self):
        """Return the shown document."""
        return _trees_of(self._kept, self.parts)[0]

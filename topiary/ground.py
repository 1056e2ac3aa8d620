"""What questions find among nodes that are told by numbers (points 30 and 31)."""

from topiary.bits import Bits
from topiary.plain import laid_out


def _children_lists(parents, outside):
    """Return, for each node and for the outside, the ascending list of the children."""
    children = [[] for _ in range(outside + 1)]
    for number, parent in enumerate(parents):
        children[outside if parent is None else parent].append(number)
    return children


def _spans(parents, outside):
    """Return, for each node and for the outside, the stretch of the nodes beneath it."""
    weights = [1] * outside
    # A node has a greater number than its parent, and so is weighed ahead of it.
    for number in range(outside - 1, 0, -1):
        weights[parents[number]] += weights[number]
    return [(number + 1, number + weights[number]) for number in range(outside)] + [(0, outside)]


class Ground:
    """The nodes of a tree by their numbers, and the outside, which has the number behind theirs.

    The outside and the nodes are the contexts. Another class with these methods and this attribute
    may stand in its place: topiary.shown has one for documents that are not laid out.
    """

    def __init__(self, tree):
        self._trees, parents = laid_out(tree)
        self.outside = len(parents)
        self._children = _children_lists(parents, self.outside)
        self._spans = _spans(parents, self.outside)

    def name_at(self, number):
        """Return the name of an element, or None for a text."""
        tree = self._trees[number]
        return None if isinstance(tree, str) else tree[0]

    def text_at(self, number):
        """Return the text, or None for an element."""
        tree = self._trees[number]
        return tree if isinstance(tree, str) else None

    def children_at(self, context):
        """Return the ascending list of the children of a context."""
        return list(self._children[context])

    def span_at(self, context):
        """Return the stretch of the nodes beneath a context."""
        return self._spans[context]


def _passing(ground, test):
    """Return, for each node, whether it passes the test."""
    names = [ground.name_at(number) for number in range(ground.outside)]
    if test == "#":
        return [name is None for name in names]
    if test == "*":
        return [name is not None for name in names]
    return [name == test for name in names]


def _over(ground, flags):
    """Return, for each context, whether a node with a flag is beneath it."""
    counts = Bits([1 if flag else 0 for flag in flags])
    spans = [ground.span_at(context) for context in range(ground.outside + 1)]
    return [counts.rank(first) < counts.rank(behind) for first, behind in spans]


def _holding(ground, string):
    """Return, for each context, whether it is, or has beneath it, a text that contains the string."""
    texts = [ground.text_at(number) for number in range(ground.outside)]
    flags = [text is not None and string in text for text in texts]
    # Nothing is beneath a text, and the outside is not asked.
    return [flag or over for flag, over in zip([*flags, False], _over(ground, flags))]


def _left_by(numbers, filters):
    """Return which ones of the nodes the filters leave: the one with a place, or those with a flag."""
    for place, flags in filters:
        if place is not None:
            numbers = numbers[place - 1:place]
        else:
            numbers = [number for number in numbers if flags[number]]
    return numbers


def _told_filter(ground, kind, value):
    """Return the pair (place, None) or (None, flags) of the contexts that a filter leaves."""
    if kind == "place":
        return (value, None)
    if kind == "has":
        return (None, _finding(ground, value))
    return (None, _holding(ground, value))


def _told_step(ground, step):
    """Return the axis and the filters of a step, its test among them as the first one."""
    axis, test, filters = step
    told = [(None, _passing(ground, test))]
    for kind, value in filters:
        told.append(_told_filter(ground, kind, value))
    return axis, told


def _leading(ground, step, goals):
    """Return, for each context, whether the step finds one of the goals from it."""
    axis, filters = _told_step(ground, step)
    if axis == "child":
        contexts = range(ground.outside + 1)
        left = [_left_by(ground.children_at(context), filters) for context in contexts]
        return [any([goals[at] for at in numbers]) for numbers in left]
    flags = [False] * ground.outside
    for number in _left_by(list(range(ground.outside)), filters):
        flags[number] = goals[number]
    return _over(ground, flags)


def _finding(ground, question):
    """Return, for each context, whether the question finds a node from it."""
    goals = [True] * ground.outside
    for step in reversed(question):
        goals = _leading(ground, step, goals)
    return goals


def _beneath(ground, contexts):
    """Return the ascending list of the nodes beneath any of the ascending contexts."""
    numbers = []
    reached = 0
    for context in contexts:
        first, behind = ground.span_at(context)
        numbers.extend(list(range(max(first, reached), behind)))
        reached = max(reached, behind)
    return numbers


def found_in(ground, context, question):
    """Return the ascending list of the nodes that a proper question finds from a context."""
    contexts = [context]
    for step in question:
        axis, filters = _told_step(ground, step)
        if axis == "below":
            contexts = _left_by(_beneath(ground, contexts), filters)
        else:
            found = []
            for number in contexts:
                found.extend(_left_by(ground.children_at(number), filters))
            contexts = sorted(found)
    return contexts

"""Trees for the tests of several modules, and the nodes of trees by the plainest way."""

import itertools
import random

EXAMPLE = ("a", [("b", ["1 < 2"]), "x", ("a", [])])


def chain(depth, last=None):
    """A tree of this depth with one node at each depth."""
    tree = ("z", []) if last is None else last
    for _ in range(depth - 1):
        tree = ("a", [tree])
    return tree


def wide(many):
    """A tree of so many nodes, texts and elements among them, that is two deep."""
    return ("r", [("b", []) if k & 1 else "t" for k in range(many - 1)])


def bushy(many):
    """A tree of so many nodes that is a few nodes deep and wide."""
    dice = random.Random(many)
    root = ("m", [])
    inner = [(root, 1)]
    for _ in range(many - 1):
        (name, children), depth = dice.choice(inner[-40:])
        if dice.randrange(3) == 0 and not (children and isinstance(children[-1], str)):
            children.append("text " + name)
        else:
            child = (dice.choice(["a", "b", "cd", "zzzzzzzzzzzz"]), [])
            children.append(child)
            if depth < 59:
                inner.append((child, depth + 1))
    return root


def some_documents():
    return [
        ("a", []), ("a", ["x"]), EXAMPLE,
        ("a", [("b", ["x"]), "y", ("b", []), ("a", ["z"])]),
        ("b", [("a", [("c", [("a", ["t"])])]), ("c", [])]),
        ("a", ["x", ("a", ["x"]), "x", ("a", ["x"])]),
        chain(60), chain(60, "end"), wide(30), bushy(80),
    ]


def laid_out(tree, parent=None, depth=1, found=None):
    """The list of (node, parent's number, depth) in the order of the numbers, by recursion."""
    found = [] if found is None else found
    number = len(found)
    found.append((tree, parent, depth))
    if not isinstance(tree, str):
        for child in tree[1]:
            laid_out(child, number, depth + 1, found)
    return found


def path_by_the_words(tree, node):
    rows = laid_out(tree)
    names = sorted({item[0][0] for item in rows if not isinstance(item[0], str)})
    path = []
    while rows[node][1] is not None:
        node = rows[node][1]
        path.append(1 + names.index(rows[node][0][0]))
    return path


def small_trees(many, names, text):
    """All elements of so many nodes with these names, in which all texts are this one."""
    return [(name, list(children)) for children in _child_lists(many - 1, names, text, False) for name in names]


def _child_lists(many, names, text, behind_text):
    """All lists of children of so many nodes in all."""
    if many == 0:
        return [()]
    found = []
    if not behind_text:
        found += [(text, *others) for others in _child_lists(many - 1, names, text, True)]
    for size in range(1, many + 1):
        for pair in itertools.product(small_trees(size, names, text), _child_lists(many - size, names, text, False)):
            found.append((pair[0], *pair[1]))
    return found

"""Edits for the tests of several modules, and what they make by the plainest way."""

import re

from trees import laid_out

TEXT = re.compile("[ -~\n]{1,200}")
NAME = re.compile("[a-z]{1,12}")


def is_tree(tree):
    if isinstance(tree, str):
        return TEXT.fullmatch(tree) is not None
    return NAME.fullmatch(tree[0]) is not None and not has_beside(tree) and all(map(is_tree, tree[1]))


def has_beside(tree):
    """Whether two children of the tree are texts side by side."""
    kinds = [isinstance(child, str) for child in tree[1]]
    return any(one and other for one, other in zip(kinds, kinds[1:]))


def rebuilt(tree, edit, number=0):
    """The trees that stand behind the edit where the tree stood, and the number behind the tree."""
    kind, node, *rest = edit
    if isinstance(tree, str):
        left = {"cut": [], "retext": rest[:1]}.get(kind) if node == number else None
        return [tree] if left is None else left, number + 1
    name, behind, children = tree[0], number + 1, []
    for child in tree[1]:
        found, behind = rebuilt(child, edit, behind)
        children += found
    if node == number and kind == "cut":
        return [], behind
    if node == number and kind == "rename":
        name = rest[0]
    if node == number and kind == "graft":
        children.insert(rest[0], rest[1])
    return [(name, children)], behind


def reason_by_the_words(tree, edit):
    """The first reason of point 41 that applies, or None."""
    kind, node, *rest = edit
    rows = laid_out(tree)
    if node not in range(len(rows)):
        return "node"
    is_element = not isinstance(rows[node][0], str)
    if is_element == (kind == "retext") and kind != "cut":
        return "kind"
    if (kind, node) == ("cut", 0):
        return "root"
    if kind == "rename" and not NAME.fullmatch(rest[0]):
        return "name"
    if kind == "retext" and not TEXT.fullmatch(rest[0]):
        return "text"
    if kind == "graft":
        if rest[0] not in range(len(rows[node][0][1]) + 1):
            return "place"
        if not is_tree(rest[1]):
            return "tree"
    found = laid_out(rebuilt(tree, edit)[0][0])
    if any(has_beside(row[0]) for row in found if not isinstance(row[0], str)):
        return "beside"
    return "size" if len(found) > 5000 or max(row[2] for row in found) > 60 else None


def drawn_edit(dice, many):
    """An edit of a document of so many nodes, which may be refused."""
    node = dice.randrange(-1, many + 1) if dice.randrange(8) == 0 else dice.randrange(many)
    kind = dice.choice(["rename", "retext", "cut", "graft", "graft"])
    if kind == "rename":
        return kind, node, dice.choice(["a", "b", "dd", "e", "e", "A", ""])
    if kind == "retext":
        return kind, node, dice.choice(["u", "u v", "<&>\n", "", "\t"])
    if kind == "cut":
        return kind, node
    trees = [
        "v", "w", "x\ny", ("a", []), ("f", ["g"]), ("b", [("c", ["x"]), "y", ("c", [])]), ("a", [("b", [("a", [])])]),
        "", ("a", ["x", "y"]), ("", []), ("a", [("b", ["\t"])]),
    ]
    return kind, node, dice.choice([0, 0, 1, 1, 2, 3, -1]), dice.choice(trees)

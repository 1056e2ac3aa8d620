"""Edits of documents: made, refused and taken back (points 40 to 42)."""

from topiary.errors import InvalidEdit
from topiary.ground import Ground
from topiary.plain import MOST_DEPTH, MOST_NODES, is_name, is_text, is_tree, node_at, nodes_of, size_and_depth
from topiary.wave import count_below


def _way_to(ground, node):
    """Return the numbers of the nodes on the way from the root to a node, both among them."""
    way = [0]
    while way[-1] != node:
        children = ground.children_at(way[-1])
        # A child has all numbers up to that of the next one, so it is the last child not behind.
        way.append(children[count_below(children, node + 1) - 1])
    return way


def _are_texts(ground, numbers):
    """Return True if each of the nodes is a text."""
    return all([ground.text_at(number) is not None for number in numbers])


def _against_rename(ground, edit):
    """Return the reason for which a rename of a node is refused, or None."""
    _, node, word = edit
    if ground.name_at(node) is None:
        return "kind"
    return None if is_name(word) else "name"


def _against_retext(ground, edit):
    """Return the reason for which a retext of a node is refused, or None."""
    _, node, string = edit
    if ground.text_at(node) is None:
        return "kind"
    return None if is_text(string) else "text"


def _against_cut(ground, edit):
    """Return the reason for which a cut of a node is refused, or None."""
    node = edit[1]
    if node == 0:
        return "root"
    siblings = ground.children_at(_way_to(ground, node)[-2])
    at = siblings.index(node)
    if 0 < at < len(siblings) - 1 and _are_texts(ground, [siblings[at - 1], siblings[at + 1]]):
        return "beside"
    return None


def _is_grafted_beside(ground, children, k, tree):
    """Return True if the tree and one of the children between which it is put are texts."""
    if not isinstance(tree, str):
        return False
    return any([ground.text_at(child) is not None for child in children[max(k - 1, 0):k + 1]])


def _against_graft(ground, edit):
    """Return the reason for which a graft at a node is refused, or None."""
    _, node, k, tree = edit
    if ground.name_at(node) is None:
        return "kind"
    children = ground.children_at(node)
    if not 0 <= k <= len(children):
        return "place"
    if not is_tree(tree):
        return "tree"
    if _is_grafted_beside(ground, children, k, tree):
        return "beside"
    many, deep = size_and_depth(tree)
    if ground.outside + many > MOST_NODES or len(_way_to(ground, node)) + deep > MOST_DEPTH:
        return "size"
    return None


AGAINST = {
    "rename": _against_rename,
    "retext": _against_retext,
    "cut": _against_cut,
    "graft": _against_graft,
}


def check_edit(ground, edit):
    """Raise an error if an edit of a document, told by a ground, is refused."""
    if not 0 <= edit[1] < ground.outside:
        raise InvalidEdit("node")
    against = AGAINST[edit[0]]
    reason = against(ground, edit)
    if reason is not None:
        raise InvalidEdit(reason)


def _instead(tree, edit):
    """Return the trees that stand, behind an edit, where the tree stood that it names."""
    kind = edit[0]
    if kind == "cut":
        return []
    if kind == "retext":
        return [edit[2]]
    word, children = tree
    if kind == "rename":
        return [(edit[2], children)]
    k, grafted = edit[2:]
    return [(word, [*children[:k], node_at(grafted, 0), *children[k:]])]


def edited(tree, edit):
    """Return the document behind the edit."""
    ground = Ground(tree)
    check_edit(ground, edit)
    trees = nodes_of(tree)
    way = _way_to(ground, edit[1])
    instead = _instead(trees[way[-1]], edit)
    if len(way) == 1:
        return instead[0]
    place = ground.children_at(way[-2]).index(way[-1])
    trees[way[-2]][1][place:place + 1] = instead
    return trees[0]


def taken_back(tree, edit):
    """Return the edit that leads from the document behind the edit back to this one."""
    ground = Ground(tree)
    check_edit(ground, edit)
    kind, node = edit[:2]
    if kind == "rename":
        return (kind, node, ground.name_at(node))
    if kind == "retext":
        return (kind, node, ground.text_at(node))
    if kind == "cut":
        parent = _way_to(ground, node)[-2]
        return ("graft", parent, ground.children_at(parent).index(node), node_at(tree, node))
    # The grafted tree gets the number of the child ahead of which it is put, or one behind them all.
    numbers = [*ground.children_at(node), ground.span_at(node)[1]]
    return ("cut", numbers[edit[2]])

"""Trees as plain tuples, lists and strings: names, texts, nodes (points 16, 17 and 20)."""

from topiary.errors import InvalidPlace
from topiary.signs import has_only_signs, is_letter

NAME_LETTERS = 12
TEXT_CHARACTERS = 200
MOST_NODES = 5000
MOST_DEPTH = 60


def is_name(word):
    """Return True if the word is a name."""
    return 1 <= len(word) <= NAME_LETTERS and all(is_letter(letter) for letter in word)


def is_text(string):
    """Return True if the string is a text."""
    return 1 <= len(string) <= TEXT_CHARACTERS and has_only_signs(string)


def _children(tree):
    """Return the list of the children, which for an element is its own list."""
    return [] if isinstance(tree, str) else tree[1]


def _has_texts_beside(trees):
    """Return True if two texts stand side by side."""
    return any(isinstance(one, str) and isinstance(other, str) for one, other in zip(trees, trees[1:]))


def _is_well_made(tree):
    """Return True if nothing is wrong with a tree but, perhaps, with a child on its own."""
    if isinstance(tree, str):
        return is_text(tree)
    return is_name(tree[0]) and not _has_texts_beside(tree[1])


def is_document(tree):
    """Return True if the tree is a document."""
    if isinstance(tree, str):
        return False
    many = 1
    waiting = [(tree, 1)]
    while waiting:
        node, depth = waiting.pop()
        many += len(_children(node))
        if many > MOST_NODES or depth > MOST_DEPTH or not _is_well_made(node):
            return False
        for child in _children(node):
            waiting.append((child, depth + 1))
    return True


def _copied(tree):
    """Return a tree that is equal to this one, in lists of its own."""
    copied = []
    waiting = [([tree], copied)]
    while waiting:
        trees, copies = waiting.pop()
        for child in trees:
            if isinstance(child, str):
                copies.append(child)
            else:
                fresh = []
                copies.append((child[0], fresh))
                waiting.append((child[1], fresh))
    return copied[0]


def laid_out(tree):
    """Return the list of the nodes, which are not copied, and that of their parents' numbers."""
    nodes = []
    parents = []
    waiting = [(tree, None)]
    while waiting:
        node, parent = waiting.pop()
        for child in reversed(_children(node)):
            waiting.append((child, len(nodes)))
        nodes.append(node)
        parents.append(parent)
    return nodes, parents


def _found_in(tree, node):
    """Return what the tree is laid out to, if it has a node with this number."""
    nodes, parents = laid_out(tree)
    if not 0 <= node < len(nodes):
        raise InvalidPlace(node)
    return nodes, parents


def _above(parents, node):
    """Return the numbers of the nodes above a node, from its parent to the root."""
    numbers = []
    parent = parents[node]
    while parent is not None:
        numbers.append(parent)
        parent = parents[parent]
    return numbers


def is_tree(tree):
    """Return True if the tree is one, of any size and depth."""
    nodes, _ = laid_out(tree)
    return all(_is_well_made(node) for node in nodes)


def size_and_depth(tree):
    """Return the number of the nodes of a tree, and its depth."""
    _, parents = laid_out(tree)
    depths = [1]
    for parent in parents[1:]:
        depths.append(depths[parent] + 1)
    return len(depths), max(depths)


def nodes_of(tree):
    """Return the list of the nodes in the order of their numbers."""
    nodes, _ = laid_out(_copied(tree))
    return nodes


def same_tree(tree, other):
    """Return True if both trees are equal."""
    waiting = [(tree, other)]
    while waiting:
        one, two = waiting.pop()
        if isinstance(one, str) or isinstance(two, str):
            if one != two:
                return False
        elif one[0] != two[0] or len(one[1]) != len(two[1]):
            return False
        else:
            waiting.extend(list(zip(one[1], two[1])))
    return True


def node_at(tree, node):
    """Return the tree that is the node with this number."""
    nodes, _ = _found_in(tree, node)
    return _copied(nodes[node])


def parent_of(tree, node):
    """Return the number of the parent, or None for the root."""
    _, parents = _found_in(tree, node)
    return parents[node]


def children_of(tree, node):
    """Return the list of the numbers of the children."""
    _, parents = _found_in(tree, node)
    return [number for number, parent in enumerate(parents) if parent == node]


def depth_of(tree, node):
    """Return the depth of the node, which is 1 for the root."""
    _, parents = _found_in(tree, node)
    return 1 + len(_above(parents, node))


def labels_of(nodes):
    """Return the label of each name of the elements among the nodes."""
    names = sorted({node[0] for node in nodes if not isinstance(node, str)})
    return {name: label for label, name in enumerate(names, start=1)}


def upward_path(tree, node):
    """Return the labels of the nodes above, from the parent to the root."""
    nodes, parents = _found_in(tree, node)
    labels = labels_of(nodes)
    return [labels[nodes[number][0]] for number in _above(parents, node)]

"""The rows of a document: made from it, and turned back to it (points 20 to 23)."""

from topiary.errors import InvalidDocument, InvalidRows
from topiary.families import families_of
from topiary.judge import judge_rows
from topiary.plain import is_document, labels_of, laid_out


class Rows:
    """Five lists that may be the rows of a document."""

    def __init__(self, names, labels, lasts, fulls, texts):
        self.names = list(names)
        self.labels = list(labels)
        self.lasts = list(lasts)
        self.fulls = list(fulls)
        self.texts = list(texts)


def same_rows(rows, other):
    """Return True if all five lists are equal."""
    return (
        rows.names == other.names
        and rows.labels == other.labels
        and rows.lasts == other.lasts
        and rows.fulls == other.fulls
        and rows.texts == other.texts
    )


def _numbers_in_rows(labels, parents):
    """Return the numbers of the nodes in the order of their upward paths."""
    paths = [[]]
    # A parent has a lesser number than its children, so its path is there already.
    for parent in parents[1:]:
        paths.append([labels[parent]] + paths[parent])
    # Sorting keeps nodes with equal paths in the order of their numbers.
    return sorted(range(len(paths)), key=lambda number: paths[number])


def rows_of(tree):
    """Return the rows of a document."""
    if not is_document(tree):
        raise InvalidDocument()
    nodes, parents = laid_out(tree)
    label_of = labels_of(nodes)
    labels = [0 if isinstance(node, str) else label_of[node[0]] for node in nodes]
    last_child = {parent: number for number, parent in enumerate(parents)}
    numbers = _numbers_in_rows(labels, parents)
    return Rows(
        list(label_of),
        [labels[number] for number in numbers],
        [1 if last_child[parents[number]] == number else 0 for number in numbers],
        [1 if number in last_child else 0 for number in numbers],
        [nodes[number] for number in numbers if labels[number] == 0],
    )


def _trees_without_children(rows):
    """Return the texts, and elements as yet without children, in rows."""
    trees = []
    many = 0
    for label in rows.labels:
        if label == 0:
            trees.append(rows.texts[many])
            many += 1
        else:
            trees.append((rows.names[label - 1], []))
    return trees


def tree_of(rows):
    """Return the document of rows."""
    fault = judge_rows(rows)
    if fault is not None:
        row, reason = fault
        raise InvalidRows(row, reason)
    trees = _trees_without_children(rows)
    families = families_of(rows.labels, rows.lasts, rows.fulls)
    for row, (first, behind) in families.items():
        trees[row][1].extend(trees[first:behind])
    return trees[0]

"""What questions find in documents (points 30 and 31)."""

from topiary.errors import ImproperQuestion, InvalidPlace
from topiary.ground import Ground, found_in
from topiary.questions import is_proper


def nodes(tree, question):
    """Return the ascending list of the nodes of the question in the document."""
    if not is_proper(question):
        raise ImproperQuestion()
    ground = Ground(tree)
    return found_in(ground, ground.outside, question)


def found_from(tree, node, question):
    """Return the ascending list of the nodes that the question finds from a node."""
    if not is_proper(question):
        raise ImproperQuestion()
    ground = Ground(tree)
    if not 0 <= node < ground.outside:
        raise InvalidPlace(node)
    return found_in(ground, node, question)

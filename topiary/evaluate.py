"""What questions find in kept documents, of which the trees are not laid out (points 30 and 31)."""

from topiary.errors import ImproperQuestion
from topiary.ground import found_in
from topiary.questions import is_proper
from topiary.shown import Shown


def nodes_kept(kept, question):
    """Return the ascending list of the nodes of the question in the kept document."""
    if not is_proper(question):
        raise ImproperQuestion()
    shown = Shown(kept, [(0, 1)])
    return found_in(shown, shown.outside, question)

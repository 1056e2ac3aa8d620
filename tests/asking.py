"""Questions for the tests of several modules, and their answers by the plainest way."""

from trees import laid_out


class Plain:
    """A document of which questions are asked node by node, as point 30 tells it. The outside is None."""

    def __init__(self, tree):
        self.nodes = laid_out(tree)

    def children(self, context):
        return [number for number, node in enumerate(self.nodes) if node[1] == context]

    def beneath(self, context):
        found = []
        for child in self.children(context):
            found += [child] + self.beneath(child)
        return found

    def passes(self, number, test):
        node = self.nodes[number][0]
        if isinstance(node, str):
            return test == "#"
        return test in ("*", node[0])

    def holds(self, number, string):
        node = self.nodes[number][0]
        if isinstance(node, str):
            return string in node
        return any(self.holds(child, string) for child in self.children(number))

    def found_by_step(self, context, step):
        axis, test, filters = step
        numbers = self.children(context) if axis == "child" else self.beneath(context)
        numbers = [number for number in numbers if self.passes(number, test)]
        for kind, value in filters:
            if kind == "place":
                numbers = [number for place, number in enumerate(numbers, start=1) if place == value]
            elif kind == "has":
                numbers = [number for number in numbers if self.found(number, value)]
            else:
                numbers = [number for number in numbers if self.holds(number, value)]
        return numbers

    def found(self, context, question):
        contexts = {context}
        for step in question:
            contexts = {number for one in contexts for number in self.found_by_step(one, step)}
        return sorted(contexts)


def drawn_question(dice, names, strings, steps=4, deep=3):
    """A proper question of at most so many steps (those in filters not counted)."""
    question = []
    for _ in range(dice.randrange(1, steps + 1)):
        axis = dice.choice(["child", "below"])
        test = dice.choice([*names, "*", "*", "#"])
        filters = []
        for _ in range(dice.choice([0, 0, 0, 1, 1, 2])):
            kind = dice.choice(["place", "has", "holds"])
            if kind == "place" and axis == "child":
                filters.append((kind, dice.choice([1, 1, 2, 3])))
            elif kind == "has" and deep > 1:
                filters.append((kind, drawn_question(dice, names, strings, 1, deep - 1)))
            elif kind == "holds":
                filters.append((kind, dice.choice(strings)))
        question.append((axis, test, filters))
    return question

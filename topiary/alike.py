"""Questions that find the same nodes in all documents, and papers that show it (points 34 to 39)."""

from topiary.errors import FilteredQuestion
from topiary.questions import is_proper
from topiary.signs import LETTERS

# The places [0] and [0], behind no member at all.
START = (1, 1)


def _check_unfiltered(questions):
    """Raise an error for the first question that is improper or has a filter."""
    for number, question in enumerate(questions):
        if not is_proper(question) or any([filters for _, _, filters in question]):
            raise FilteredQuestion(number)


def _passes(member, test):
    """Return True if the member of a chain passes the test."""
    return member == test or (test == "*" and member != "#")


def _marks_of(places):
    """Return the number that has the bit k for each place k of a list, and no others."""
    return sum([1 << k for k in sorted(set(places))])


class Marks:
    """A question that leads from one list of places to another one, each told as a number by its bits."""

    def __init__(self, question, tested):
        self.size = len(question)
        self._staying = _marks_of([k for k, (axis, _, _) in enumerate(question) if axis == "below"])
        self._moving = {}
        for member in tested:
            passed = [k for k, (_, test, _) in enumerate(question) if _passes(member, test)]
            self._moving[member] = _marks_of(passed)

    def behind(self, marks, member):
        """Return the places behind one member more."""
        return ((marks & self._moving[member]) << 1) | (marks & self._staying)

    def is_taking(self, marks):
        """Return True if the places take."""
        return (marks >> self.size) & 1 == 1

    def places(self, marks):
        """Return the ascending list of the places."""
        return [k for k in range(self.size + 1) if (marks >> k) & 1 == 1]

    def are_places(self, numbers):
        """Return True if the numbers are places, ascending and without duplicates."""
        return all([0 <= k <= self.size for k in numbers]) and numbers == sorted(set(numbers))


def _members_of(first, second):
    """Return the list of the members for two questions."""
    tests = [test for _, test, _ in first + second]
    # Two questions have fewer steps than there are letters, so that one letter is left.
    other = [letter for letter in LETTERS if letter not in tests][0]
    return sorted(set(["#", other] + [test for test in tests if test != "*"]))


def members(first, second):
    """Return the list of the members of chains that have to be looked at for two questions."""
    _check_unfiltered([first, second])
    return _members_of(first, second)


def takes(question, chain):
    """Return True if the question takes the chain."""
    _check_unfiltered([question])
    marks = Marks(question, chain)
    reached = 1
    for member in chain:
        reached = marks.behind(reached, member)
    return marks.is_taking(reached)


def places_after(question, places, member):
    """Return the ascending list of the places behind one member more."""
    _check_unfiltered([question])
    marks = Marks(question, [member])
    return marks.places(marks.behind(_marks_of(places), member))


class Pairing:
    """Two questions side by side, for pairs of places of the first and of the second one."""

    def __init__(self, first, second, is_within):
        self._members = _members_of(first, second)
        self._one = Marks(first, self._members)
        self._two = Marks(second, self._members)
        self._is_within = is_within

    def members_behind(self, at):
        """Return the members that may stand behind the pair with this number, 0 for no member at all."""
        # No chain begins with "#", which comes first among the members.
        return self._members[1:] if at == 0 else self._members

    def behind(self, pair, member):
        """Return the pair behind one member more."""
        return (self._one.behind(pair[0], member), self._two.behind(pair[1], member))

    def is_right(self, pair):
        """Return True if both lists take, or none does; for being within, if not the first alone does."""
        one = self._one.is_taking(pair[0])
        two = self._two.is_taking(pair[1])
        return one == two or (self._is_within and two)

    def lists(self, pair):
        """Return the two lists of places."""
        return (self._one.places(pair[0]), self._two.places(pair[1]))

    def pair(self, lists):
        """Return the pair that two lists are, or None if one of them is no ascending list of places."""
        one, two = lists
        if self._one.are_places(one) and self._two.are_places(two):
            return (_marks_of(one), _marks_of(two))
        return None


def accepts_paper(first, second, paper, within=False):
    """Return True if the paper is accepted for being alike, or for being within."""
    _check_unfiltered([first, second])
    pairing = Pairing(first, second, within)
    pairs = [pairing.pair(lists) for lists in paper]
    if None in pairs:
        return False
    told = set(pairs)
    for at, pair in enumerate([START, *pairs]):
        for member in pairing.members_behind(at):
            behind = pairing.behind(pair, member)
            if not pairing.is_right(behind) or (member != "#" and behind not in told):
                return False
    return True


def _chain_to(origins, at, member):
    """Return the chain that ends with a member behind the pair with this number."""
    chain = [member]
    while at > 0:
        at, ahead = origins[at]
        chain.append(ahead)
    return chain[::-1]


def _compared(pairing):
    """Return an accepted paper and None, or None and the least of the shortest chains against it."""
    pairs = [START]
    # For each pair the number of the pair ahead of it, and the member between them.
    origins = [None]
    seen = set()
    at = 0
    while at < len(pairs):
        for member in pairing.members_behind(at):
            behind = pairing.behind(pairs[at], member)
            if not pairing.is_right(behind):
                return None, _chain_to(origins, at, member)
            if member != "#" and behind not in seen:
                seen.add(behind)
                pairs.append(behind)
                origins.append((at, member))
        at += 1
    return [pairing.lists(pair) for pair in pairs[1:]], None


def _answer(first, second, is_within, words):
    """Return the first word and a paper, or the second word and a chain."""
    _check_unfiltered([first, second])
    paper, chain = _compared(Pairing(first, second, is_within))
    return (words[0], paper) if chain is None else (words[1], chain)


def compare(first, second):
    """Return `("alike", paper)`, or `("apart", chain)`."""
    return _answer(first, second, False, ("alike", "apart"))


def compare_within(first, second):
    """Return `("within", paper)`, or `("outside", chain)`."""
    return _answer(first, second, True, ("within", "outside"))

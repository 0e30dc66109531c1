"""Seeds: how agents carry their parts of a formula."""


class TruthSeed:
    """The seed of true or false (point 19)."""

    def __init__(self, truth):
        self._truth = truth

    def begin(self, _):
        """The only mark, whatever the variable is."""
        return ()

    def meet(self, first, second):
        """Both marks as they are."""
        return (first, second)

    def answer(self, _):
        """1 for true, 0 for false."""
        return self._truth


class LeastSeed:
    """The seed of "least", with marks of whether the agent leads, its answer and its value (point 17)."""

    def __init__(self, terms, bound):
        self._factors = dict(terms)
        self._bound = bound
        self._greatest = max([abs(factor) for _, factor in terms] + [abs(bound) + 1])

    def _reached(self, value):
        return 1 if value >= self._bound else 0

    def begin(self, variable):
        """The first mark of a variable."""
        factor = self._factors.get(variable, 0)
        return (1, self._reached(factor), factor)

    def meet(self, first, second):
        """What two marks become: the first agent leads and takes as much of the sum as a value may be."""
        if first[0] == 0 and second[0] == 0:
            return (first, second)
        value = first[2] + second[2]
        kept = max(-self._greatest, min(value, self._greatest))
        reached = self._reached(kept)
        return ((1, reached, kept), (0, reached, value - kept))

    def answer(self, mark):
        """The answer that the mark has."""
        return mark[1]


class RestSeed:
    """The seed of "rest", with marks of an agent that leads and its value, or of another one and its answer."""

    def __init__(self, terms, rest, modulus):
        self._factors = dict(terms)
        self._rest = rest
        self._modulus = modulus

    def begin(self, variable):
        """The first mark of a variable."""
        return (1, self._factors.get(variable, 0) % self._modulus)

    def _told(self, leader):
        """The mark of an agent that a leader has met."""
        return (0, self.answer(leader))

    def meet(self, first, second):
        """What two marks become: the first agent leads with the sum, and the one that does not lead is told."""
        if first[0] == 1 and second[0] == 1:
            leader = (1, (first[1] + second[1]) % self._modulus)
            return (leader, self._told(leader))
        if first[0] == 1:
            return (first, self._told(first))
        if second[0] == 1:
            return (self._told(second), second)
        return (first, second)

    def answer(self, mark):
        """Whether the value is the rest, or the answer that the agent was told."""
        leads, value = mark
        if leads == 0:
            return value
        return 1 if value == self._rest else 0


class NotSeed:
    """The seed of "not", that of the inner formula with the other answers."""

    def __init__(self, inner):
        self._inner = inner

    def begin(self, variable):
        """The first mark of a variable."""
        return self._inner.begin(variable)

    def meet(self, first, second):
        """What two marks become."""
        return self._inner.meet(first, second)

    def answer(self, mark):
        """The other answer."""
        return 1 - self._inner.answer(mark)


class PairSeed:
    """The seed of "and" or "or", with pairs of a mark of the left part and one of the right part."""

    def __init__(self, word, left, right):
        self._word = word
        self._left = left
        self._right = right

    def begin(self, variable):
        """The first mark of a variable."""
        return (self._left.begin(variable), self._right.begin(variable))

    def meet(self, first, second):
        """What two marks become: both parts do what they do by themselves."""
        third_left, fourth_left = self._left.meet(first[0], second[0])
        third_right, fourth_right = self._right.meet(first[1], second[1])
        return ((third_left, third_right), (fourth_left, fourth_right))

    def answer(self, mark):
        """1 if both, or at least one, of the two answers are 1."""
        answers = [self._left.answer(mark[0]), self._right.answer(mark[1])]
        return min(answers) if self._word == "and" else max(answers)


def seed_of(formula):
    """The seed of a formula."""
    word = formula[0]
    if word == "least":
        return LeastSeed(formula[1], formula[2])
    if word == "rest":
        return RestSeed(formula[1], formula[2], formula[3])
    if word == "not":
        return NotSeed(seed_of(formula[1]))
    if word in ("and", "or"):
        return PairSeed(word, seed_of(formula[1]), seed_of(formula[2]))
    return TruthSeed(1 if word == "true" else 0)


def first_mark(formula, variable):
    """The first mark of a variable."""
    return seed_of(formula).begin(variable)


def meet_marks(formula, first, second):
    """The pair of marks that two marks become when their agents meet."""
    return seed_of(formula).meet(first, second)


def mark_answer(formula, mark):
    """The answer of a mark, 0 or 1."""
    return seed_of(formula).answer(mark)

"""Marks that can occur, and the protocol that has them as its states."""

from mingle.errors import TooManyStates
from mingle.protocols import MOST_STATES, Rulebook


class Marks:
    """The marks that can occur, numbered in the order in which they are found (point 20)."""

    def __init__(self):
        self.marks = []
        self.results = {}
        self._numbers = {}

    def number(self, mark):
        """The number of a mark, the next one if it was not found before. Raises TooManyStates."""
        if mark not in self._numbers:
            if len(self.marks) == MOST_STATES:
                raise TooManyStates(MOST_STATES)
            self._numbers[mark] = len(self.marks)
            self.marks.append(mark)
        return self._numbers[mark]

    def add_meeting(self, first, second, marks):
        """Takes what the marks with two numbers become when they meet. Raises TooManyStates."""
        third, fourth = marks
        self.results[first, second] = (self.number(third), self.number(fourth))


def find_marks(firsts, meet):
    """All marks that can occur, from the first marks and a function that gives what two marks become.

    Raises TooManyStates.
    """
    found = Marks()
    for mark in firsts:
        found.number(mark)
    before = 0
    while before < len(found.marks):
        end = len(found.marks)
        for first in range(end):
            # Two marks that were both there before the last round began have met in it.
            for second in range(before if first < before else 0, end):
                found.add_meeting(first, second, meet(found.marks[first], found.marks[second]))
        before = end
    return found


def protocol_of(found, firsts, leaders, outputs):
    """The protocol whose states are the marks that were found.

    firsts has pairs of an input and its first mark, leaders has the marks of the leaders.
    """
    states = [f"q{number}" for number in range(len(found.marks))]
    inputs = [(name, states[found.number(mark)]) for name, mark in firsts]
    rules = [
        (states[first], states[second], states[third], states[fourth])
        for (first, second), (third, fourth) in sorted(found.results.items())
        if (first, second) != (third, fourth)
    ]
    return Rulebook(states, inputs, [states[found.number(mark)] for mark in leaders], rules, outputs)


def seeded_marks(seed, names):
    """All marks of a seed that can occur if agents begin with these variables. Raises TooManyStates."""
    return find_marks([seed.begin(name) for name in names], lambda first, second: seed.meet(first, second))


def seeded_protocol(seed, names, output):
    """The protocol of a seed and its variables; the function output tells that of a mark. Raises TooManyStates."""
    found = seeded_marks(seed, names)
    firsts = [(name, seed.begin(name)) for name in names]
    return protocol_of(found, firsts, [], [output(mark) for mark in found.marks])

"""Protocols that decide formulas."""

from mingle.errors import InvalidFormula, TooManyStates
from mingle.formulas import is_formula, variables
from mingle.formulatext import parse_formula
from mingle.protocols import MOST_STATES, Rulebook
from mingle.seeds import seed_of


class Marks:
    """The marks that can occur, numbered in the order in which they are found (point 20)."""

    def __init__(self):
        self.marks = []
        self.results = {}
        self._numbers = {}

    def number(self, mark):
        """The number of a mark, the next one if it was not found before. Raises TooManyStates."""
        if mark not in self._numbers:
            if len(self.marks) == MOST_STATES:
                raise TooManyStates(MOST_STATES)
            self._numbers[mark] = len(self.marks)
            self.marks.append(mark)
        return self._numbers[mark]

    def add_meeting(self, first, second, marks):
        """Takes what the marks with two numbers become when they meet. Raises TooManyStates."""
        third, fourth = marks
        self.results[first, second] = (self.number(third), self.number(fourth))


def find_marks(firsts, meet):
    """All marks that can occur, from the first marks and a function that gives what two marks become.

    Raises TooManyStates.
    """
    found = Marks()
    for mark in firsts:
        found.number(mark)
    before = 0
    while before < len(found.marks):
        end = len(found.marks)
        for first in range(end):
            # Two marks that were both there before the last round began have met in it.
            for second in range(before if first < before else 0, end):
                found.add_meeting(first, second, meet(found.marks[first], found.marks[second]))
        before = end
    return found


def protocol_of(found, firsts, outputs):
    """The protocol whose states are the marks that were found; firsts has pairs of an input and its first mark."""
    states = [f"q{number}" for number in range(len(found.marks))]
    inputs = [(name, states[found.number(mark)]) for name, mark in firsts]
    rules = [
        (states[first], states[second], states[third], states[fourth])
        for (first, second), (third, fourth) in sorted(found.results.items())
        if (first, second) != (third, fourth)
    ]
    return Rulebook(states, inputs, [], rules, outputs)


def _seed_for(formula):
    """The seed of a formula. Raises InvalidFormula if the tuple is none."""
    if not is_formula(formula):
        raise InvalidFormula("the tuple is not a formula")
    return seed_of(formula)


def _find_all(formula, seed):
    """The marks of a formula that can occur. Raises TooManyStates."""
    firsts = [seed.begin(name) for name in variables(formula)]
    return find_marks(firsts, lambda first, second: seed.meet(first, second))


def marks_of(formula):
    """The marks of the compiled protocol, in the order of its states. Raises InvalidFormula, and TooManyStates."""
    return _find_all(formula, _seed_for(formula)).marks


def compile_formula(formula):
    """The protocol that decides a formula. Raises InvalidFormula, and TooManyStates."""
    seed = _seed_for(formula)
    found = _find_all(formula, seed)
    firsts = [(name, seed.begin(name)) for name in variables(formula)]
    return protocol_of(found, firsts, [seed.answer(mark) for mark in found.marks])


def compile_text(text):
    """The protocol that decides the formula with this text. Raises InvalidFormula, and TooManyStates."""
    return compile_formula(parse_formula(text))

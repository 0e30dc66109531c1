"""Protocols that decide formulas."""

from mingle.errors import InvalidFormula
from mingle.formulas import is_formula, variables
from mingle.formulatext import parse_formula
from mingle.marks import seeded_marks, seeded_protocol
from mingle.seeds import seed_of


def _seed_for(formula):
    """The seed of a formula. Raises InvalidFormula if the tuple is none."""
    if not is_formula(formula):
        raise InvalidFormula("the tuple is not a formula")
    return seed_of(formula)


def marks_of(formula):
    """The marks of the compiled protocol, in the order of its states. Raises InvalidFormula, and TooManyStates."""
    return seeded_marks(_seed_for(formula), variables(formula)).marks


def compile_formula(formula):
    """The protocol that decides a formula. Raises InvalidFormula, and TooManyStates."""
    seed = _seed_for(formula)
    return seeded_protocol(seed, variables(formula), lambda mark: seed.answer(mark))


def compile_text(text):
    """The protocol that decides the formula with this text. Raises InvalidFormula, and TooManyStates."""
    return compile_formula(parse_formula(text))

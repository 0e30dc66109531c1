"""Protocols that decide formulas."""

from mingle.formulas import checked, variables
from mingle.formulatext import parse_formula
from mingle.marks import seeded_marks, seeded_protocol
from mingle.seeds import seed_of


def marks_of(formula):
    """The marks of the compiled protocol, in the order of its states. Raises InvalidFormula, and TooManyStates."""
    return seeded_marks(seed_of(checked(formula)), variables(formula)).marks


def compile_formula(formula):
    """The protocol that decides a formula. Raises InvalidFormula, and TooManyStates."""
    seed = seed_of(checked(formula))
    return seeded_protocol(seed, variables(formula), lambda mark: seed.answer(mark))


def compile_text(text):
    """The protocol that decides the formula with this text. Raises InvalidFormula, and TooManyStates."""
    return compile_formula(parse_formula(text))

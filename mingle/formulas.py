"""Formulas: questions about the counts of variables."""

from mingle.errors import InvalidFormula, UnknownName, WrongCounts
from mingle.protocols import is_name

WORDS = ("and", "or", "not", "true", "false", "mod")
GREATEST_NUMBER = 20
LEAST_MODULUS = 2
GREATEST_MODULUS = 20
GREATEST_DEPTH = 8
MOST_VARIABLES = 8


def is_variable(name):
    """True if the string is a name that is not one of the words of formulas."""
    return is_name(name) and name not in WORDS


def are_terms(terms, lowest, highest):
    """True if the pairs are terms, with factors from the lowest to the highest one."""
    names = [name for name, _ in terms]
    return (
        len(terms) > 0
        and all([is_variable(name) for name in names])
        and names == sorted(set(names))
        and all([factor != 0 and lowest <= factor <= highest for _, factor in terms])
    )


def _is_least(terms, bound):
    return are_terms(terms, -GREATEST_NUMBER, GREATEST_NUMBER) and -GREATEST_NUMBER <= bound <= GREATEST_NUMBER


def _is_rest(terms, rest, modulus):
    return (
        are_terms(terms, -GREATEST_NUMBER, GREATEST_NUMBER)
        and LEAST_MODULUS <= modulus <= GREATEST_MODULUS
        and 0 <= rest < modulus
    )


def _parts(formula):
    """The formulas of which a formula consists: none, one or two."""
    if formula[0] in ("not", "and", "or"):
        return formula[1:]
    return ()


def _is_sound(formula, room):
    """True if the depth is at most the room and all names and numbers are right."""
    if room == 0:
        return False
    if formula[0] == "least":
        return _is_least(formula[1], formula[2])
    if formula[0] == "rest":
        return _is_rest(formula[1], formula[2], formula[3])
    return all([_is_sound(part, room - 1) for part in _parts(formula)])


def is_formula(formula):
    """True if the tuple is a formula (point 12)."""
    return _is_sound(formula, GREATEST_DEPTH) and len(variables(formula)) <= MOST_VARIABLES


def checked(formula):
    """The formula. Raises InvalidFormula if the tuple is none."""
    if not is_formula(formula):
        raise InvalidFormula("the tuple is not a formula")
    return formula


def depth(formula):
    """1 for a formula without parts, otherwise one more than the greatest depth of its parts."""
    return 1 + max([depth(part) for part in _parts(formula)], default=0)


def _all_terms(formula):
    """The terms of all relations of a formula."""
    if formula[0] in ("least", "rest"):
        return list(formula[1])
    return [term for part in _parts(formula) for term in _all_terms(part)]


def variables(formula):
    """The ascending list of the variables."""
    return sorted({name for name, _ in _all_terms(formula)})


def check_counts(names, counts):
    """Raises UnknownName for the first name without a count, and then WrongCounts if one of the counts is negative."""
    for name in names:
        if name not in counts:
            raise UnknownName(name)
    if min([counts[name] for name in names], default=0) < 0:
        raise WrongCounts("a count is negative")


def total(terms, counts):
    """The sum of factor times count."""
    return sum([factor * counts[name] for name, factor in terms])


def holds(formula, counts):
    """The answer for these counts, of which there is one for each variable, none of them negative."""
    word = formula[0]
    if word == "least":
        return total(formula[1], counts) >= formula[2]
    if word == "rest":
        return total(formula[1], counts) % formula[3] == formula[2]
    if word == "not":
        return not holds(formula[1], counts)
    if word == "and":
        return holds(formula[1], counts) and holds(formula[2], counts)
    if word == "or":
        return holds(formula[1], counts) or holds(formula[2], counts)
    return word == "true"


def answer(formula, counts):
    """The answer for these counts, True or False (point 13). Raises UnknownName, and then WrongCounts."""
    check_counts(variables(formula), counts)
    return holds(formula, counts)

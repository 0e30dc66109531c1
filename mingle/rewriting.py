"""Formulas that are made from others: negated, simplified or named anew; and where two formulas differ."""

from math import gcd

from mingle.checking import lists_with_sum
from mingle.formulas import checked, holds, variables
from mingle.formulatext import added_up, least_or_truth, most_or_truth, rest_or_truth

TRUE = ("true",)
FALSE = ("false",)


def _opposite(formula):
    """The negation of a formula (point 56)."""
    word = formula[0]
    if word in ("true", "false"):
        return FALSE if formula == TRUE else TRUE
    if word == "least":
        return most_or_truth(formula[1], formula[2] - 1)
    if word == "rest":
        return ("not", formula)
    if word == "not":
        return formula[1]
    return ("or" if word == "and" else "and", _opposite(formula[1]), _opposite(formula[2]))


def negated(formula):
    """The formula with the opposite answer (point 56). Raises InvalidFormula if this is none."""
    return checked(_opposite(formula))


def _plain_least(terms, bound):
    """The simplified relation "the sum is at least the bound"."""
    shared = 0
    for _, factor in terms:
        shared = gcd(shared, factor)
    factors = [factor for _, factor in terms]
    # The negative of an integer quotient of the negative is rounded up.
    lowered = -(-bound // shared)
    if min(factors) > 0 and lowered <= 0:
        return TRUE
    if max(factors) < 0 and lowered > 0:
        return FALSE
    return ("least", tuple([(name, factor // shared) for name, factor in terms]), lowered)


def _plain_rest(terms, rest, modulus):
    """The simplified relation "the sum leaves the rest"."""
    lowered = [(name, factor % modulus) for name, factor in terms]
    return rest_or_truth(tuple([(name, factor) for name, factor in lowered if factor != 0]), rest, modulus)


def _plain_not(inner):
    """The simplified negation of a simplified formula."""
    if inner[0] == "rest":
        return ("not", inner)
    return _plain(_opposite(inner))


def _plain_pair(word, left, right):
    """The simplified "and" or "or" of two simplified formulas."""
    idle, decisive = (TRUE, FALSE) if word == "and" else (FALSE, TRUE)
    if decisive in (left, right):
        return decisive
    if left == idle:
        return right
    if right in (idle, left):
        return left
    return (word, left, right)


def _plain(formula):
    """The simplified formula, in which bounds may be out of range."""
    word = formula[0]
    if word == "least":
        return _plain_least(formula[1], formula[2])
    if word == "rest":
        return _plain_rest(formula[1], formula[2], formula[3])
    if word == "not":
        return _plain_not(_plain(formula[1]))
    if word in ("and", "or"):
        return _plain_pair(word, _plain(formula[1]), _plain(formula[2]))
    return formula


def simplified(formula):
    """The simplified formula (point 57). Raises InvalidFormula if this is none."""
    return checked(_plain(formula))


def _renamed(formula, names):
    """The formula with other names of its variables."""
    word = formula[0]
    if word not in ("least", "rest"):
        return (word, *[_renamed(part, names) for part in formula[1:]])
    terms = added_up([(names.get(name, name), factor) for name, factor in formula[1]])
    if word == "least":
        return least_or_truth(terms, formula[2])
    return rest_or_truth(terms, formula[2], formula[3])


def replaced(formula, names):
    """The formula with variables replaced by others (point 58). Raises InvalidFormula if this is none."""
    return checked(_renamed(formula, names))


def first_difference(first, second, size):
    """The first counts with a sum of at most the size for which the answers differ, a dict, or None (point 58)."""
    names = sorted(set(variables(first) + variables(second)))
    for wanted in range(size + 1):
        for numbers in lists_with_sum(len(names), wanted):
            counts = dict(zip(names, numbers))
            if holds(first, counts) != holds(second, counts):
                return counts
    return None

"""Formulas that ask for the value of a function."""

from mingle.errors import InvalidFunction
from mingle.formulas import checked
from mingle.formulatext import added_up, least_or_truth
from mingle.functions import is_function


def _check_function(function):
    if not is_function(function):
        raise InvalidFunction("the tuple is not a function")


def _less_question(left, right, bound):
    """The question whether the left sum less the right one, but at least 0, is at least the bound."""
    if bound <= 0:
        return ("true",)
    return least_or_truth(added_up([*left, *[(name, -factor) for name, factor in right]]), bound)


def _question(function, bound):
    """The formula of point 66, in which numbers may be out of range."""
    word = function[0]
    if word == "sum":
        return ("least", function[1], bound)
    if word == "quotient":
        return ("least", function[1], bound * function[2])
    if word == "less":
        return _less_question(function[1], function[2], bound)
    return ("and" if word == "min" else "or", ("least", function[1], bound), ("least", function[2], bound))


def at_least(function, bound):
    """The formula that asks whether the value is at least the bound. Raises InvalidFunction, and InvalidFormula."""
    _check_function(function)
    return checked(_question(function, bound))


def exactly(function, number):
    """The formula that asks whether the value is the number (point 67). Raises InvalidFunction, and InvalidFormula."""
    _check_function(function)
    return checked(("and", _question(function, number), ("not", _question(function, number + 1))))

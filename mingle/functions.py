"""Counting functions, and the protocols that compute them."""

from mingle.errors import InvalidFunction
from mingle.formulas import MOST_VARIABLES, are_terms, check_counts, total
from mingle.marks import seeded_marks, seeded_protocol

GREATEST_FACTOR = 9
LEAST_DIVISOR = 2
GREATEST_DIVISOR = 20


def _sums(function):
    """The lists of terms of a function, one or two."""
    if function[0] in ("sum", "quotient"):
        return [function[1]]
    return [function[1], function[2]]


def is_function(function):
    """True if the tuple is a function (point 28)."""
    return (
        all([are_terms(terms, 1, GREATEST_FACTOR) for terms in _sums(function)])
        and (function[0] != "quotient" or LEAST_DIVISOR <= function[2] <= GREATEST_DIVISOR)
        and len(function_variables(function)) <= MOST_VARIABLES
    )


def function_variables(function):
    """The ascending list of the variables."""
    return sorted({name for terms in _sums(function) for name, _ in terms})


def value(function, counts):
    """The value for these counts (point 28). Raises UnknownName, and then WrongCounts."""
    check_counts(function_variables(function), counts)
    sums = [total(terms, counts) for terms in _sums(function)]
    word = function[0]
    if word == "sum":
        return sums[0]
    if word == "quotient":
        return sums[0] // function[2]
    if word == "min":
        return min(sums)
    if word == "max":
        return max(sums)
    return max(0, sums[0] - sums[1])


class SumSeed:
    """The seed of "sum", with marks of the factor alone (point 29)."""

    def __init__(self, terms):
        self._factors = dict(terms)

    def begin(self, variable):
        """The first mark of a variable."""
        return (self._factors.get(variable, 0),)

    def meet(self, first, second):
        """Both marks as they are."""
        return (first, second)

    def output(self, mark):
        """The part of the value that the mark carries."""
        return mark[0]


class QuotientSeed:
    """The seed of "quotient", with marks of a rest and a whole."""

    def __init__(self, terms, divisor):
        self._factors = dict(terms)
        self._divisor = divisor

    def begin(self, variable):
        """The first mark of a variable."""
        factor = self._factors.get(variable, 0)
        return (factor % self._divisor, factor // self._divisor)

    def meet(self, first, second):
        """What two marks become: the first agent takes the rests, the second one what they make whole."""
        if first[0] == 0 or second[0] == 0:
            return (first, second)
        rests = first[0] + second[0]
        return ((rests % self._divisor, first[1]), (0, second[1] + rests // self._divisor))

    def output(self, mark):
        """The part of the value that the mark carries."""
        return mark[1]


class MatchSeed:
    """The seed of "min", "max" or "less", with marks of left and right units without a match and of matched ones."""

    def __init__(self, word, left, right):
        self._word = word
        self._left = dict(left)
        self._right = dict(right)

    def begin(self, variable):
        """The first mark of a variable."""
        left = self._left.get(variable, 0)
        right = self._right.get(variable, 0)
        matched = min(left, right)
        return (left - matched, right - matched, matched)

    def meet(self, first, second):
        """What two marks become: the left units of each are matched with the right ones of the other."""
        here = min(first[0], second[1])
        there = min(second[0], first[1])
        return (
            (first[0] - here, first[1] - there, first[2] + here),
            (second[0] - there, second[1] - here, second[2] + there),
        )

    def output(self, mark):
        """The part of the value that the mark carries."""
        left, right, matched = mark
        if self._word == "min":
            return matched
        if self._word == "less":
            return left
        return left + right + matched


def _seed_for(function):
    """The seed of a function. Raises InvalidFunction if the tuple is none."""
    if not is_function(function):
        raise InvalidFunction("the tuple is not a function")
    if function[0] == "sum":
        return SumSeed(function[1])
    if function[0] == "quotient":
        return QuotientSeed(function[1], function[2])
    return MatchSeed(function[0], function[1], function[2])


def function_marks(function):
    """The marks of the compiled protocol, in the order of its states. Raises InvalidFunction, and TooManyStates."""
    return seeded_marks(_seed_for(function), function_variables(function)).marks


def compile_function(function):
    """The protocol that computes a function (point 29). Raises InvalidFunction, and TooManyStates."""
    seed = _seed_for(function)
    return seeded_protocol(seed, function_variables(function), lambda mark: seed.output(mark))

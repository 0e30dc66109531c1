"""Written functions."""

from mingle.errors import InvalidFormula, InvalidFunction
from mingle.formulatext import MOST_DIGITS, Words, format_sum, take_sum
from mingle.functions import is_function
from mingle.protocoltext import is_decimal


def format_function(function):
    """The text of a function (point 65)."""
    word = function[0]
    if word == "sum":
        return f"sum ( {format_sum(function[1])} )"
    if word == "quotient":
        return f"quotient ( {format_sum(function[1])} ) by {function[2]}"
    return f"{word} ( {format_sum(function[1])} ) ( {format_sum(function[2])} )"


def _demand(holds, why):
    if not holds:
        raise InvalidFunction(why)


def _take_sum(words):
    """The terms of the sum in parentheses that stands next. Raises InvalidFunction."""
    _demand(words.skip("("), "a sum does not begin with a parenthesis")
    try:
        terms = take_sum(words)
    except InvalidFormula:
        raise InvalidFunction("a sum is not valid") from None
    _demand(words.skip(")"), "a parenthesis is missing")
    return terms


def _take_divisor(words):
    _demand(words.skip("by"), "the divisor is missing")
    word = words.take()
    _demand(is_decimal(word, MOST_DIGITS), f"{word} is no divisor")
    return int(word)


def _take_function(words):
    """The tuple of the function that stands next. Raises InvalidFunction if the words have no form."""
    word = words.take()
    if word == "sum":
        return (word, _take_sum(words))
    if word == "quotient":
        return (word, _take_sum(words), _take_divisor(words))
    _demand(word in ("min", "max", "less"), f"{word} is no word of a function")
    return (word, _take_sum(words), _take_sum(words))


def parse_function(text):
    """The function with this text (point 65). Raises InvalidFunction."""
    words = Words(text)
    function = _take_function(words)
    _demand(words.are_taken(), "words stand behind the function")
    _demand(is_function(function), "the text means no function")
    return function

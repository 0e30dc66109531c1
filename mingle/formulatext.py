"""Written formulas."""

from mingle.errors import InvalidFormula
from mingle.formulas import GREATEST_DEPTH, GREATEST_MODULUS, GREATEST_NUMBER, LEAST_MODULUS, checked, is_variable
from mingle.protocoltext import is_decimal

SIGNS = (">=", ">", "<=", "<", "=")
MOST_DIGITS = 30


def format_sum(terms):
    """The text of a sum."""
    return " + ".join([name if factor == 1 else f"{factor} * {name}" for name, factor in terms])


def _format_part(formula):
    if formula[0] in ("and", "or"):
        return f"( {format_formula(formula)} )"
    return format_formula(formula)


def format_formula(formula):
    """The text of a formula (point 14)."""
    word = formula[0]
    if word == "least":
        return f"{format_sum(formula[1])} >= {formula[2]}"
    if word == "rest":
        return f"{format_sum(formula[1])} = {formula[2]} mod {formula[3]}"
    if word == "not":
        return f"not {_format_part(formula[1])}"
    if word in ("and", "or"):
        return f"{_format_part(formula[1])} {word} {_format_part(formula[2])}"
    return word


def _demand(holds, why):
    if not holds:
        raise InvalidFormula(why)


class Words:
    """The words of a text, which are taken one by one; behind the last one they are empty."""

    def __init__(self, text):
        self._words = text.split(" ")
        self._taken = 0

    def _following(self):
        return "" if self.are_taken() else self._words[self._taken]

    def are_taken(self):
        """True if no word is left."""
        return self._taken >= len(self._words)

    def take(self):
        """The next word."""
        word = self._following()
        self._taken += 1
        return word

    def skip(self, word):
        """Takes the next word if it is this one, and tells whether it is."""
        if self._following() != word:
            return False
        self._taken += 1
        return True


def _number(word):
    """The integer that a word tells. Raises InvalidFormula."""
    digits = word[1:] if word.startswith("-") else word
    _demand(is_decimal(digits, MOST_DIGITS) and word != "-0", f"{word} is not an integer")
    return int(word)


def _take_variable(words):
    word = words.take()
    _demand(is_variable(word), f"{word} is not a variable")
    return word


def _take_term(words):
    word = words.take()
    if is_variable(word):
        return (word, 1)
    factor = _number(word)
    _demand(words.skip("*"), "a factor is not followed by a variable")
    return (_take_variable(words), factor)


def added_up(terms):
    """The terms with each variable once, ascending, and without those whose factor becomes 0."""
    factors = {}
    for name, factor in terms:
        factors[name] = factors.get(name, 0) + factor
    return tuple([(name, factors[name]) for name in sorted(factors) if factors[name] != 0])


def take_sum(words):
    """The terms of the sum that stands next, added up. Raises InvalidFormula."""
    terms = [_take_term(words)]
    while words.skip("+"):
        terms.append(_take_term(words))
    return added_up(terms)


def _truth(holds):
    return ("true",) if holds else ("false",)


def least_or_truth(terms, bound):
    """The relation "the sum is at least the bound"; true or false if there is no term."""
    return ("least", terms, bound) if terms else _truth(0 >= bound)


def rest_or_truth(terms, rest, modulus):
    """The relation "the sum leaves the rest"; true or false if there is no term."""
    return ("rest", terms, rest, modulus) if terms else _truth(rest == 0)


def most_or_truth(terms, bound):
    """The relation "the sum is at most the bound"; true or false if there is no term."""
    return least_or_truth(tuple([(name, -factor) for name, factor in terms]), -bound)


def _compared(terms, sign, bound):
    """The formula that means the same as the terms, the sign and the bound."""
    if sign == ">=":
        return least_or_truth(terms, bound)
    if sign == ">":
        return least_or_truth(terms, bound + 1)
    if sign == "<=":
        return most_or_truth(terms, bound)
    if sign == "<":
        return most_or_truth(terms, bound - 1)
    if terms:
        return ("and", least_or_truth(terms, bound), most_or_truth(terms, bound))
    return _truth(bound == 0)


def _left_over(terms, rest, modulus):
    """The formula for a rest. Raises InvalidFormula if the rest or the modulus is out of range."""
    # No formula shows these two numbers if no term is left, so it would not be seen there.
    _demand(LEAST_MODULUS <= modulus <= GREATEST_MODULUS, f"the modulus {modulus} is out of range")
    _demand(-GREATEST_NUMBER <= rest <= GREATEST_NUMBER, f"the rest {rest} is out of range")
    return rest_or_truth(terms, rest % modulus, modulus)


def _take_relation(words):
    terms = take_sum(words)
    sign = words.take()
    _demand(sign in SIGNS, f"{sign} is not a sign of a relation")
    number = _number(words.take())
    if sign == "=" and words.skip("mod"):
        return _left_over(terms, number, _number(words.take()))
    return _compared(terms, sign, number)


def _take_joined(words, left, room):
    """The formula that begins with the left part and goes on with "and" or "or"."""
    word = words.take()
    _demand(word in ("and", "or"), f"{word} stands where no word or another one is due")
    return (word, left, _take_part(words, room))


def _take_part(words, room):
    """The part that stands next. Raises InvalidFormula, also if it is deeper than the room."""
    _demand(room > 0, "the formula is too deep")
    if words.skip("true"):
        return ("true",)
    if words.skip("false"):
        return ("false",)
    if words.skip("not"):
        return ("not", _take_part(words, room - 1))
    if words.skip("("):
        formula = _take_joined(words, _take_part(words, room - 1), room - 1)
        _demand(words.skip(")"), "a parenthesis is missing")
        return formula
    return _take_relation(words)


def parse_formula(text):
    """The formula with this text (point 15). Raises InvalidFormula."""
    words = Words(text)
    formula = _take_part(words, GREATEST_DEPTH)
    # No parentheses stand round the whole formula, so another part is due behind those that it begins with.
    if text.startswith("(") or not words.are_taken():
        formula = _take_joined(words, formula, GREATEST_DEPTH)
    _demand(words.are_taken(), "words stand behind the formula")
    return checked(formula)

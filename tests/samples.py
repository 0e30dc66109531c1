"""Protocols and formulas that several tests use."""

import random

from mingle.protocols import Rulebook

TRUE = ("true",)
FALSE = ("false",)


def pair():
    return Rulebook(["x", "z"], [("x", "x")], [], [("x", "x", "x", "z")], [1, 0])


def majority():
    rules = [("a", "b", "n", "n"), ("b", "a", "n", "n"), ("a", "n", "a", "y"), ("b", "y", "b", "n")]
    return Rulebook(["a", "b", "n", "y"], [("a", "a"), ("b", "b")], [], rules, [1, 0, 0, 1])


def names(many):
    return [f"s{number}" for number in range(many)]


def plain(states, rules=()):
    """A protocol with these states, the first one the state of its only input."""
    return Rulebook(list(states), [("x", states[0])], [], list(rules), [0] * len(states))


def drawn_protocol(seed, many):
    """A protocol with many states and rules for about half of the pairs, the same one for each seed."""
    draw = random.Random(seed)
    states = names(many)
    rules = [
        (first, second, draw.choice(states), draw.choice(states))
        for first in states
        for second in states
        if draw.random() < 0.5
    ]
    draw.shuffle(rules)
    return Rulebook(states, [("x", "s0")], [], rules, [draw.randrange(10) for _ in states])


def drawn_rules(seed, many, rules):
    """A protocol with so many states and at most so many drawn rules."""
    draw = random.Random(seed)
    states = names(many)
    found = {}
    for _ in range(rules):
        found[draw.choice(states), draw.choice(states)] = (draw.choice(states), draw.choice(states))
    return Rulebook(states, [], [], [first + second for first, second in found.items()], [0] * many)


def least(bound, **factors):
    """The formula that the sum of these terms is at least the bound."""
    return ("least", tuple(sorted(factors.items())), bound)


def rest(number, modulus, **factors):
    """The formula that the sum of these terms leaves this rest."""
    return ("rest", tuple(sorted(factors.items())), number, modulus)


def nested(depth, inner=TRUE):
    """A chain of "not" with this depth in all, round a formula of the depth 1."""
    return inner if depth == 1 else ("not", nested(depth - 1, inner))


def many_variables(many):
    """A formula with so many variables, some of them in two relations."""
    half = (many + 1) // 2
    left = rest(1, 3, **{f"v{number}": 2 for number in range(half)})
    right = least(1, **{f"v{number}": -3 for number in range(half - 1, many)})
    return ("or", left, right)


def drawn_terms(draw, known, greatest):
    chosen = sorted(draw.sample(known, draw.randint(1, len(known))))
    return tuple([(name, draw.choice([-1, 1]) * draw.randint(1, greatest)) for name in chosen])


def drawn_formula(draw, depth, known, greatest=20):
    """A formula with at most this depth, some of these variables and numbers up to the greatest."""
    words = ["true", "false", "least", "least", "rest", "rest"]
    if depth > 1:
        words += ["not", "and", "or"] * 3
    word = draw.choice(words)
    if word == "least":
        return ("least", drawn_terms(draw, known, greatest), draw.randint(-greatest, greatest))
    if word == "rest":
        modulus = draw.randint(2, max(2, greatest))
        return ("rest", drawn_terms(draw, known, greatest), draw.randrange(modulus), modulus)
    if word == "not":
        return ("not", drawn_formula(draw, depth - 1, known, greatest))
    if word in ("and", "or"):
        parts = [drawn_formula(draw, depth - 1, known, greatest) for _ in range(2)]
        return (word, *parts)
    return (word,)


def counts_up_to(many, greatest):
    """All lists of so many counts with a sum of at most the greatest."""
    if many == 0:
        return [[]]
    return [[first, *others] for first in range(greatest + 1) for others in counts_up_to(many - 1, greatest - first)]

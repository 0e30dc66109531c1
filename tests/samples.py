"""Protocols that several tests use."""

import random

from mingle.protocols import Rulebook


def pair():
    return Rulebook(["x", "z"], [("x", "x")], [], [("x", "x", "x", "z")], [1, 0])


def majority():
    rules = [("a", "b", "n", "n"), ("b", "a", "n", "n"), ("a", "n", "a", "y"), ("b", "y", "b", "n")]
    return Rulebook(["a", "b", "n", "y"], [("a", "a"), ("b", "b")], [], rules, [1, 0, 0, 1])


def names(many):
    return [f"s{number}" for number in range(many)]


def plain(states, rules=()):
    """A protocol with these states, the first one the state of its only input."""
    return Rulebook(list(states), [("x", states[0])], [], list(rules), [0] * len(states))


def drawn_protocol(seed, many):
    """A protocol with many states and rules for about half of the pairs, the same one for each seed."""
    draw = random.Random(seed)
    states = names(many)
    rules = [
        (first, second, draw.choice(states), draw.choice(states))
        for first in states
        for second in states
        if draw.random() < 0.5
    ]
    draw.shuffle(rules)
    return Rulebook(states, [("x", "s0")], [], rules, [draw.randrange(10) for _ in states])

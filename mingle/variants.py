"""Small protocols for great bounds, protocols with other inputs, and what kinds of protocols there are."""

from mingle.errors import InvalidRulebook, UnknownName, WrongCounts
from mingle.places import successors
from mingle.protocols import MOST_LEADERS, Rulebook

GREATEST_EXPONENT = 20


def doubling(name, exponent):
    """The protocol that tells whether an input is there 2 ** exponent times (point 49). Raises InvalidRulebook."""
    if not 1 <= exponent <= GREATEST_EXPONENT:
        raise InvalidRulebook(f"the exponent {exponent} is out of range")
    carrying = [f"p{number}" for number in range(exponent)]
    others = [*carrying, "z"]
    doubled = {state: (following, "z") for state, following in zip(carrying, carrying[1:])}
    doubled[carrying[-1]] = ("y", "y")
    rules = []
    for state in others:
        if state in doubled:
            rules.append((state, state, *doubled[state]))
        rules.append((state, "y", "y", "y"))
    rules.extend([("y", state, "y", "y") for state in others])
    return Rulebook([*others, "y"], [(name, "p0")], [], rules, [0] * len(others) + [1])


def with_inputs(protocol, inputs):
    """The protocol with other inputs. Raises InvalidRulebook."""
    return Rulebook(protocol.states, inputs, protocol.leaders, protocol.rules, protocol.outputs)


def fixed(protocol, name, count):
    """The protocol with an input fixed to a count (point 51). Raises UnknownName, WrongCounts, and InvalidRulebook."""
    states = dict(protocol.inputs)
    if name not in states:
        raise UnknownName(name)
    if count < 0:
        raise WrongCounts("a count is negative")
    # The count may be so great that no list of the leaders can be made.
    if len(protocol.leaders) + count > MOST_LEADERS:
        raise InvalidRulebook(f"there are more than {MOST_LEADERS} leaders")
    inputs = [pair for pair in protocol.inputs if pair[0] != name]
    leaders = [*protocol.leaders, *[states[name]] * count]
    return Rulebook(protocol.states, inputs, leaders, protocol.rules, protocol.outputs)


def is_one_way(protocol):
    """True if no meeting changes the first agent."""
    return all([rule[0] == rule[2] for rule in protocol.rules])


def _is_mirrored(protocol, rule):
    """True if the meeting in the other order has the results of the rule exchanged."""
    first, second, third, fourth = [protocol.number(name) for name in rule]
    return protocol.meet(second, first) == (fourth, third)


def is_symmetric(protocol):
    """True if each meeting has the results exchanged that the meeting in the other order has."""
    # Two states without a rule in either order stay as they are, which is symmetric.
    return all([_is_mirrored(protocol, rule) for rule in protocol.rules])


def is_silent(protocol, place):
    """True if no meeting leads to another place. Raises WrongCounts."""
    return successors(protocol, place) == []

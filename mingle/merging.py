"""Protocols with fewer states that do the same, and with other names."""

from mingle.marks import find_marks
from mingle.protocols import Rulebook


def _occurring(protocol):
    """The ascending list of the names of the states that can occur, by their numbers."""
    firsts = [protocol.number(state) for _, state in protocol.inputs]
    firsts.extend([protocol.number(state) for state in protocol.leaders])
    found = find_marks(firsts, lambda first, second: protocol.meet(first, second))
    return [protocol.states[number] for number in sorted(found.marks)]


def trimmed(protocol):
    """The protocol without the states that cannot occur (point 32)."""
    states = _occurring(protocol)
    kept = set(states)
    rules = [rule for rule in protocol.rules if rule[0] in kept and rule[1] in kept]
    outputs = [protocol.outputs[protocol.number(state)] for state in states]
    return Rulebook(states, protocol.inputs, protocol.leaders, rules, outputs)


def _numbered(signs):
    """For each sign the number of its kind; kinds are numbered in the order in which they first occur."""
    numbers = {}
    for sign in signs:
        if sign not in numbers:
            numbers[sign] = len(numbers)
    return [numbers[sign] for sign in signs]


def _meeting_rows(protocol):
    """For each state its meetings that change something, in a fixed order.

    Each one is a tuple of a number for the other state and the order, the pair of states and the pair of results.
    """
    rows = [[] for _ in protocol.states]
    for first in range(len(protocol)):
        for second in protocol.partners(first):
            results = protocol.meet(first, second)
            rows[first].append((2 * second, (first, second), results))
            rows[second].append((2 * first + 1, (first, second), results))
    return [sorted(row) for row in rows]


def _sign(kinds, state, row):
    """What tells a state from others, if states are told apart by these kinds."""
    told = [kinds[state]]
    for at, (first, second), (third, fourth) in row:
        # A result of the same kinds counts as no change, since the meetings without a rule are not in the row.
        if kinds[third] != kinds[first] or kinds[fourth] != kinds[second]:
            told.append((at, kinds[third], kinds[fourth]))
    return tuple(told)


def _kinds(protocol):
    """For each state the number of its class."""
    rows = _meeting_rows(protocol)
    kinds = _numbered(protocol.outputs)
    while True:
        finer = _numbered([_sign(kinds, state, row) for state, row in enumerate(rows)])
        if finer == kinds:
            return kinds
        kinds = finer


def _members(kinds):
    """For each kind the ascending list of the states of this kind, in the order of their first ones."""
    found = {}
    for state, kind in enumerate(kinds):
        found.setdefault(kind, []).append(state)
    return list(found.values())


def classes(protocol):
    """The classes of states that are alike: ascending lists of numbers, in the order of their first ones (point 33)."""
    return _members(_kinds(protocol))


def merged(protocol):
    """The protocol with one state for each class of states that are alike (point 33)."""
    kinds = _kinds(protocol)
    heads = [members[0] for members in _members(kinds)]
    states = [protocol.states[head] for head in heads]
    heir = {state: states[kind] for state, kind in zip(protocol.states, kinds)}
    rules = []
    for first, head in enumerate(heads):
        for second, other in enumerate(heads):
            third, fourth = protocol.meet(head, other)
            if (kinds[third], kinds[fourth]) != (first, second):
                rules.append((states[first], states[second], states[kinds[third]], states[kinds[fourth]]))
    inputs = [(name, heir[state]) for name, state in protocol.inputs]
    leaders = [heir[state] for state in protocol.leaders]
    return Rulebook(states, inputs, leaders, rules, [protocol.outputs[head] for head in heads])


def renamed(protocol, names):
    """The protocol with other names of its states, in their order. Raises InvalidRulebook."""
    new = dict(zip(protocol.states, names))
    inputs = [(name, new[state]) for name, state in protocol.inputs]
    leaders = [new[state] for state in protocol.leaders]
    rules = [tuple([new[state] for state in rule]) for rule in protocol.rules]
    return Rulebook(names, inputs, leaders, rules, protocol.outputs)

"""Protocols that fall, so that their populations come to rest, and protocols that agree when they rest."""

from mingle.errors import TooLarge

MOST_LOOKED_AT = 10


def _moves(protocol, first, second):
    """True if a meeting of agents in these states leads to another place."""
    return protocol.meet(first, second) not in ((first, second), (second, first))


def _moving_rules(protocol):
    """The rules that move, as tuples of numbers of states."""
    rules = [tuple([protocol.number(name) for name in rule]) for rule in protocol.rules]
    return [rule for rule in rules if _moves(protocol, rule[0], rule[1])]


def _change(rule, flags):
    """By how much a rule changes the number of agents in a set, of which a flag for each state tells (point 68)."""
    first, second, third, fourth = rule
    return flags[third] + flags[fourth] - flags[first] - flags[second]


def _is_lowering(rule, rows):
    """True if the rule lowers the first of the numbers of agents that it changes, for sets given by flags."""
    for flags in rows:
        change = _change(rule, flags)
        if change != 0:
            return change < 0
    return False


def is_falling(protocol, sets):
    """True if the list of sets shows that the protocol falls (point 68). Nothing is in a number that is no state."""
    rows = [[1 if state in members else 0 for state in range(len(protocol))] for members in sets]
    return all([_is_lowering(rule, rows) for rule in _moving_rules(protocol)])


def _all_flags(many):
    """The flags of all sets of so many states, in ascending order of the numbers for which they stand (point 70)."""
    return [[(number >> state) & 1 for state in range(many)] for number in range(1 << many)]


def _first_lowered(rules, rows):
    """The flags of the first set that no rule raises and some rule lowers, or None."""
    for flags in rows:
        changes = [_change(rule, flags) for rule in rules]
        if max(changes) <= 0 and min(changes) < 0:
            return flags
    return None


def find_sets(protocol):
    """The list of sets by which point 70 shows that the protocol falls, or None. Raises TooLarge."""
    if len(protocol) > MOST_LOOKED_AT:
        raise TooLarge(MOST_LOOKED_AT)
    rows = _all_flags(len(protocol))
    rules = _moving_rules(protocol)
    found = []
    while rules:
        flags = _first_lowered(rules, rows)
        if flags is None:
            return None
        found.append([state for state, flag in enumerate(flags) if flag == 1])
        rules = [rule for rule in rules if _change(rule, flags) == 0]
    return found


def disagreement(protocol):
    """The smallest pair of states with different outputs whose two meetings do not move, or None (point 71)."""
    for first in range(len(protocol)):
        for second in range(first + 1, len(protocol)):
            if protocol.outputs[first] != protocol.outputs[second]:
                if not _moves(protocol, first, second) and not _moves(protocol, second, first):
                    return (first, second)
    return None


def agrees(protocol):
    """True if in each silent place all agents have the same output (point 71)."""
    return disagreement(protocol) is None

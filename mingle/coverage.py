"""Patterns, and from which places of whatever size they can come to be covered.

Patterns may have many states and few agents. So they are looked for as needs: the ascending tuple of the states with
counts above 0, each with its count.
"""

from heapq import heappop, heappush

from mingle.places import check_place, size

END = -1


def covers(place, pattern):
    """True if no count of the place is less than that of the pattern."""
    return all([count >= wanted for count, wanted in zip(place, pattern)])


def _needs_of(pattern):
    """The needs of a pattern."""
    return tuple([(state, count) for state, count in enumerate(pattern) if count > 0])


def _pattern_of(needs, many):
    """The pattern with these needs, for so many states."""
    counts = [0] * many
    for state, count in needs:
        counts[state] = count
    return tuple(counts)


def _agents(needs):
    return sum([count for _, count in needs])


class Basis:
    """Needs, of which none are below others. They are kept as a tree, so that they share how they begin.

    A node of the tree has for each state that comes next the counts, and for each count the following node.
    """

    def __init__(self):
        self.found = []
        self._root = {}

    def is_below(self, needs):
        """True if some needs of the basis are below these, or the same."""
        waiting = [(self._root, 0)]
        while waiting:
            node, passed = waiting.pop()
            if END in node:
                return True
            for index in range(passed, len(needs)):
                state, most = needs[index]
                for count, following in node.get(state, {}).items():
                    if count <= most:
                        waiting.append((following, index + 1))
        return False

    def take(self, needs):
        """Takes needs that no others of the basis are below."""
        self.found.append(needs)
        node = self._root
        for state, count in needs:
            node = node.setdefault(state, {}).setdefault(count, {})
        node[END] = {}


def _rules_by_result(protocol):
    """For each state the rules that have it as a result, as tuples of numbers of states."""
    rows = [[] for _ in protocol.states]
    for rule in protocol.rules:
        numbers = tuple([protocol.number(name) for name in rule])
        rows[numbers[2]].append(numbers)
        rows[numbers[3]].append(numbers)
    return rows


def _before(needs, rule):
    """What a place must cover so that it covers these needs after the rule (point 47)."""
    first, second, third, fourth = rule
    counts = dict(needs)
    for state in (third, fourth):
        counts[state] = max(0, counts.get(state, 0) - 1)
    for state in (first, second):
        counts[state] = counts.get(state, 0) + 1
    return tuple(sorted([(state, count) for state, count in counts.items() if count > 0]))


def _all_before(needs, rows):
    """What point 47 gives for all rules that have a result in the needs."""
    # What it gives for the other rules is above these needs.
    return [_before(needs, rule) for state, _ in needs for rule in rows[state]]


def _all_needs(protocol, patterns):
    """The needs of patterns. Raises WrongCounts if one of these does not fit."""
    for pattern in patterns:
        check_place(protocol, pattern)
    return [_needs_of(pattern) for pattern in patterns]


def _find_origins(protocol, patterns, most):
    """The needs of the origins with at most so many agents, or of all origins if there is no such number.

    Raises WrongCounts.
    """
    rows = _rules_by_result(protocol)
    basis = Basis()
    waiting = []
    seen = set()
    further = _all_needs(protocol, patterns)
    while further or waiting:
        for needs in further:
            if needs not in seen and (most is None or _agents(needs) <= most):
                seen.add(needs)
                heappush(waiting, (_agents(needs), needs))
        further = []
        if waiting:
            # A rule never leads back to fewer agents. So what waits is never below what was taken before.
            _, needs = heappop(waiting)
            if not basis.is_below(needs):
                basis.take(needs)
                further = _all_before(needs, rows)
    return basis.found


def origins(protocol, patterns):
    """The ascending list of the origins of patterns (point 47). Raises WrongCounts."""
    return sorted([_pattern_of(needs, len(protocol)) for needs in _find_origins(protocol, patterns, None)])


def can_cover(protocol, place, patterns):
    """True if a place can be reached that covers one of the patterns (point 48). Raises WrongCounts."""
    check_place(protocol, place)
    # Meetings never change the size, so greater origins tell nothing about the place.
    for needs in _find_origins(protocol, patterns, size(place)):
        if all([place[state] >= count for state, count in needs]):
            return True
    return False


def smallest_beginning(protocol, states, patterns):
    """The first origin with counts above 0 only for these states, or None (point 48). Raises WrongCounts."""
    for pattern in origins(protocol, patterns):
        if all([state in states for state, _ in _needs_of(pattern)]):
            return pattern
    return None

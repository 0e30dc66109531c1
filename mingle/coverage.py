"""Patterns, and from which places of whatever size they can come to be covered."""

from heapq import heappop, heappush

from mingle.places import check_place, size

NOWHERE = -1


def covers(place, pattern):
    """True if no count of the place is less than that of the pattern."""
    return all([count >= wanted for count, wanted in zip(place, pattern)])


def _needs(pattern):
    """The ascending list of the states with counts above 0, with these counts."""
    return [(state, count) for state, count in enumerate(pattern) if count > 0]


def _meets(pattern, needs):
    """True if no count of the pattern is less than the needs say."""
    for state, count in needs:
        if pattern[state] < count:
            return False
    return True


class Basis:
    """Patterns of which none is below another one, taken from the smallest sizes on."""

    def __init__(self):
        self.patterns = []
        # The needs of each pattern, by their first state: only those that begin in a state of a pattern can be met.
        self._rows = {}

    def is_below(self, pattern):
        """True if one of the patterns is below this one."""
        heads = [state for state, _ in _needs(pattern)]
        for head in [NOWHERE, *heads]:
            for needs in self._rows.get(head, []):
                if _meets(pattern, needs):
                    return True
        return False

    def take(self, pattern):
        """Takes a pattern that no other one is below."""
        needs = _needs(pattern)
        head = needs[0][0] if needs else NOWHERE
        self._rows.setdefault(head, []).append(needs)
        self.patterns.append(pattern)


def _rules_by_result(protocol):
    """For each state the rules that have it as a result, as tuples of numbers of states."""
    rows = [[] for _ in protocol.states]
    for rule in protocol.rules:
        numbers = tuple([protocol.number(name) for name in rule])
        rows[numbers[2]].append(numbers)
        rows[numbers[3]].append(numbers)
    return rows


def _before(pattern, rule):
    """The pattern that a place must cover so that it covers this one after the rule (point 47)."""
    first, second, third, fourth = rule
    counts = list(pattern)
    for state in (third, fourth):
        if counts[state] > 0:
            counts[state] -= 1
    counts[first] += 1
    counts[second] += 1
    return tuple(counts)


def _all_before(pattern, rows):
    """The patterns of point 47 for all rules that have a result in the pattern."""
    # The patterns for the other rules are above this one.
    return [_before(pattern, rule) for state, _ in _needs(pattern) for rule in rows[state]]


def _is_small(pattern, most):
    return most is None or size(pattern) <= most


def _find_origins(protocol, patterns, most):
    """The origins with at most so many agents, or all of them if there is no such number. Raises WrongCounts."""
    for pattern in patterns:
        check_place(protocol, pattern)
    rows = _rules_by_result(protocol)
    seen = set(patterns)
    waiting = []
    for pattern in sorted(seen):
        heappush(waiting, (size(pattern), pattern))
    basis = Basis()
    # A rule never leads back to a smaller size. So what waits is never below what was taken before.
    while waiting:
        _, pattern = heappop(waiting)
        if _is_small(pattern, most) and not basis.is_below(pattern):
            basis.take(pattern)
            for other in _all_before(pattern, rows):
                if other not in seen:
                    seen.add(other)
                    heappush(waiting, (size(other), other))
    return sorted(basis.patterns)


def origins(protocol, patterns):
    """The ascending list of the origins of patterns (point 47). Raises WrongCounts."""
    return _find_origins(protocol, patterns, None)


def can_cover(protocol, place, patterns):
    """True if a place can be reached that covers one of the patterns (point 48). Raises WrongCounts."""
    check_place(protocol, place)
    # Meetings never change the size, so greater origins tell nothing about the place.
    found = _find_origins(protocol, patterns, size(place))
    return any([covers(place, pattern) for pattern in found])


def smallest_beginning(protocol, states, patterns):
    """The first origin with counts above 0 only for these states, or None (point 48). Raises WrongCounts."""
    for pattern in origins(protocol, patterns):
        if all([state in states for state, _ in _needs(pattern)]):
            return pattern
    return None

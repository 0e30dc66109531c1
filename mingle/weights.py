"""Weights of states that no meeting changes in all (point 35), and their base."""

from math import gcd, lcm

from mingle.places import check_place


def weight_of(place, weights):
    """The sum of count times weight."""
    return sum([count * weight for count, weight in zip(place, weights)])


def _equation(protocol, rule):
    """The factors of the weights in the equation of a rule, by states, without those that are 0 (point 36)."""
    factors = {}
    for name, factor in zip(rule, (1, 1, -1, -1)):
        state = protocol.number(name)
        factors[state] = factors.get(state, 0) + factor
    return {state: factor for state, factor in factors.items() if factor != 0}


def is_kept(protocol, weights):
    """True if every rule keeps the sum of the weights of the two agents."""
    for rule in protocol.rules:
        factors = _equation(protocol, rule)
        if sum([factor * weights[state] for state, factor in factors.items()]) != 0:
            return False
    return True


def _lowered(row):
    """The row, divided by the greatest integer that divides all of its factors."""
    shared = 0
    for factor in row.values():
        shared = gcd(shared, factor)
    return {state: factor // shared for state, factor in row.items()}


def _without(row, pivot, state):
    """The row without a state, by taking away a multiple of the pivot row."""
    shared = gcd(row[state], pivot[state])
    keep = pivot[state] // shared
    take = row[state] // shared
    factors = {other: keep * factor for other, factor in row.items()}
    for other, factor in pivot.items():
        factors[other] = factors.get(other, 0) - take * factor
    return _lowered({other: factor for other, factor in factors.items() if factor != 0})


def _without_bound(row, pivots):
    """The row without the states that have a pivot row."""
    bound = [state for state in row if state in pivots]
    # A pivot row has no other such state, so none comes back.
    for state in bound:
        row = _without(row, pivots[state], state)
    return row


def _pivot_rows(protocol):
    """The rows of the reduced form of the equations, by the bound states of which they are the pivot rows."""
    pivots = {}
    for rule in protocol.rules:
        row = _without_bound(_equation(protocol, rule), pivots)
        if row:
            bound = min(row)
            for other in list(pivots):
                if bound in pivots[other]:
                    pivots[other] = _without(pivots[other], row, bound)
            pivots[bound] = row
    return pivots


def _weights_for(free, pivots, many):
    """The weights of the base for a free state."""
    weights = [0] * many
    whole = 1
    for bound, row in pivots.items():
        if free in row:
            whole = lcm(whole, row[bound] // gcd(row[bound], row[free]))
    weights[free] = whole
    for bound, row in pivots.items():
        weights[bound] = -row.get(free, 0) * whole // row[bound]
    return weights


def base(protocol):
    """The base of the kept weights, one list of integers for each free state, in their order (point 36)."""
    pivots = _pivot_rows(protocol)
    many = len(protocol)
    return [_weights_for(state, pivots, many) for state in range(many) if state not in pivots]


def separating(protocol, first, second):
    """The first weights of the base that differ at the two places, or None. Raises WrongCounts."""
    check_place(protocol, first)
    check_place(protocol, second)
    for weights in base(protocol):
        if weight_of(first, weights) != weight_of(second, weights):
            return weights
    return None

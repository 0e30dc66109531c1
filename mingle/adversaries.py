"""Adversaries, which keep a population away from its goal."""

from mingle.checking import is_right
from mingle.crowds import follow, place_of
from mingle.places import moved


def _foremost(crowd):
    """The first two agents of each state, ascending."""
    many = {}
    found = []
    for agent, state in enumerate(crowd):
        many[state] = many.get(state, 0) + 1
        if many[state] <= 2:
            found.append(agent)
    return found


def _first_pairs(crowd):
    """For each two states that can meet the first pair of agents in them, in ascending order of the pairs."""
    # No other agents can be in such a pair.
    agents = _foremost(crowd)
    found = {}
    for first in agents:
        for second in agents:
            if first != second:
                found.setdefault((crowd[first], crowd[second]), (first, second))
    return found


def _chosen(protocol, crowd, goal):
    """The pair of agents that the adversary lets meet (point 42)."""
    place = place_of(protocol, crowd)
    pairs = _first_pairs(crowd)
    wrong = []
    for meeting, pair in pairs.items():
        following = moved(protocol, place, meeting)
        if not is_right(protocol, following, goal):
            if following != place:
                return pair
            wrong.append(pair)
    return wrong[0] if wrong else (0, 1)


def delay(protocol, crowd, goal, count):
    """The schedule of the adversary for a number of meetings."""
    if len(crowd) < 2:
        return []
    here = list(crowd)
    schedule = []
    for _ in range(count):
        schedule.append(_chosen(protocol, here, goal))
        here = follow(protocol, here, schedule[-1:])
    return schedule

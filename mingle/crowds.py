"""Crowds, in which agents are told apart, and their schedules."""

from mingle.errors import NotAgents, NotPossible

NOBODY = -1


def crowd_of(place):
    """The crowd with ascending states that stands for the place."""
    return [state for state, count in enumerate(place) for _ in range(count)]


def place_of(protocol, crowd):
    """The place for which the crowd stands."""
    counts = [0] * len(protocol)
    for state in crowd:
        counts[state] += 1
    return tuple(counts)


def _are_agents(crowd, first, second):
    """True if these are two different agents of the crowd."""
    return first != second and min(first, second) >= 0 and max(first, second) < len(crowd)


def follow(protocol, crowd, schedule):
    """The crowd after the schedule. Raises NotAgents with the index of a pair."""
    here = list(crowd)
    for index, (first, second) in enumerate(schedule):
        if not _are_agents(here, first, second):
            raise NotAgents(index)
        here[first], here[second] = protocol.meet(here[first], here[second])
    return here


def _first_in(crowd, state, other):
    """The first agent in the state besides the other one, or NOBODY."""
    for agent, found in enumerate(crowd):
        if found == state and agent != other:
            return agent
    return NOBODY


def schedule_for(protocol, crowd, run):
    """The schedule that does a run by the smallest pairs of agents. Raises NotPossible with the index of a meeting."""
    here = list(crowd)
    schedule = []
    for index, (first_state, second_state) in enumerate(run):
        first = _first_in(here, first_state, NOBODY)
        second = _first_in(here, second_state, first)
        if NOBODY in (first, second):
            raise NotPossible(index)
        here[first], here[second] = protocol.meet(first_state, second_state)
        schedule.append((first, second))
    return schedule

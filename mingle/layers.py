"""Meetings that can happen side by side, and those on which the state of an agent may depend."""


def layers(schedule):
    """The layers of a schedule, lists of ascending pairs (point 60)."""
    rows = []
    # For each agent the number of layers up to the last one that has it.
    reached = {}
    for first, second in schedule:
        layer = max(reached.get(first, 0), reached.get(second, 0))
        if layer == len(rows):
            rows.append([])
        rows[layer].append((first, second))
        reached[first] = layer + 1
        reached[second] = layer + 1
    return [sorted(row) for row in rows]


def are_equivalent(first, second):
    """True if one schedule becomes the other one by exchanges of meetings without a common agent (point 59)."""
    return layers(first) == layers(second)


def _traced(schedule, agent):
    """The indexes of the meetings in the past of an agent, and its sources, both ascending."""
    sources = {agent}
    past = []
    for index in reversed(range(len(schedule))):
        first, second = schedule[index]
        if first in sources or second in sources:
            past.append(index)
            sources.add(first)
            sources.add(second)
    return (sorted(past), sorted(sources))


def past_of(schedule, agent):
    """The ascending list of the indexes of the meetings in the past of an agent (point 61)."""
    past, _ = _traced(schedule, agent)
    return past


def sources_of(schedule, agent):
    """The ascending list of the agents on whose first states the state of an agent may depend (point 61)."""
    _, sources = _traced(schedule, agent)
    return sources


def flattened(rows):
    """The schedule with the pairs of all layers, one layer after the other."""
    return [pair for row in rows for pair in row]

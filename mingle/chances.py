"""The exact chances of what random meetings bring, and the expected number of meetings."""

from mingle.bottoms import bottoms
from mingle.errors import TooLarge
from mingle.fractions import fraction, minus, plus, solve, times
from mingle.places import meetings, moved, size

NEVER = (0, 1)
SURELY = (1, 1)
MOST_OUTSIDE = 120


def _pairs_for(place, meeting):
    """The number of ordered pairs of different agents that can do the meeting."""
    first, second = meeting
    return place[first] * (place[second] - (1 if first == second else 0))


def step_chances(protocol, place):
    """The ascending list of the pairs of a place and the chance of the step to it (point 38). Raises WrongCounts."""
    ways = {}
    for meeting in meetings(protocol, place):
        following = moved(protocol, place, meeting)
        ways[following] = ways.get(following, 0) + _pairs_for(place, meeting)
    pairs = size(place) * (size(place) - 1)
    if pairs == 0:
        return [(place, SURELY)]
    # All other pairs of agents stay as they are.
    ways[place] = ways.get(place, 0) + pairs - sum(ways.values())
    return [(following, fraction(ways[following], pairs)) for following in sorted(ways) if ways[following] > 0]


def _steps_outside(graph, regions):
    """For each place outside of the bottoms the pairs of a number and the chance of the step to it.

    Raises TooLarge if there are too many such places.
    """
    inside = {number for region in regions for number in region}
    outside = [number for number in range(len(graph)) if number not in inside]
    if len(outside) > MOST_OUTSIDE:
        raise TooLarge(MOST_OUTSIDE)
    steps = {}
    for number in outside:
        chances = step_chances(graph.protocol, graph.place(number))
        steps[number] = [(graph.number_of(following), chance) for following, chance in chances]
    return steps


def _visits(steps):
    """For each place outside of the bottoms the mean number of meetings that happen there.

    Its equations are those of point 40 with rows and columns exchanged: the mean number is the sum of those of the
    places from where the step leads here, each times its chance, and 1 more for the first place. So it is enough to
    solve them once, however many bottoms there are.
    """
    at = {number: index for index, number in enumerate(steps)}
    rows = [[NEVER] * (len(at) + 1) for _ in range(len(at))]
    for number, chances in steps.items():
        rows[at[number]][-1] = SURELY if number == 0 else NEVER
        rows[at[number]][at[number]] = plus(rows[at[number]][at[number]], SURELY)
        for following, chance in chances:
            if following in at:
                row = rows[at[following]]
                row[at[number]] = minus(row[at[number]], chance)
    return dict(zip(list(steps), solve(rows)))


def _entries(steps, visits):
    """For each place by which a bottom can be entered the chance that it is entered there."""
    # If the first place is in a bottom, there are no steps from outside.
    found = {} if steps else {0: SURELY}
    for number, chances in steps.items():
        for following, chance in chances:
            if following not in steps:
                found[following] = plus(found.get(following, NEVER), times(visits[number], chance))
    return found


def _added(chances):
    """The sum of fractions."""
    total = NEVER
    for chance in chances:
        total = plus(total, chance)
    return total


def bottom_chances(graph):
    """The chances that random meetings lead into the bottoms, in their order (point 39). Raises TooLarge."""
    regions = bottoms(graph)
    steps = _steps_outside(graph, regions)
    entries = _entries(steps, _visits(steps))
    return [_added([entries.get(number, NEVER) for number in region]) for region in regions]


def expected_meetings(graph):
    """The mean number of meetings until the population is in a bottom, a fraction (point 39). Raises TooLarge."""
    visits = _visits(_steps_outside(graph, bottoms(graph)))
    return _added(list(visits.values()))

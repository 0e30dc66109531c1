"""Places, and what meetings make of them."""

from mingle.errors import NotPossible, WrongCounts
from mingle.protocols import are_counts


def size(place):
    """The number of agents."""
    return sum(place)


def check_place(protocol, place):
    """Raises WrongCounts if the place does not fit the protocol."""
    if not are_counts(place, len(protocol)):
        raise WrongCounts("there is not one count, not negative, for each state")


def is_possible(place, meeting):
    """True if a meeting is possible in a place (point 6); no agent is in a state that there is not."""
    first, second = meeting
    if min(meeting) < 0 or max(meeting) >= len(place):
        return False
    if first == second:
        return place[first] >= 2
    return place[first] >= 1 and place[second] >= 1


def moved(protocol, place, meeting):
    """The place after a possible meeting."""
    first, second = meeting
    third, fourth = protocol.meet(first, second)
    counts = list(place)
    counts[first] -= 1
    counts[second] -= 1
    counts[third] += 1
    counts[fourth] += 1
    return tuple(counts)


def _changing_seconds(protocol, first, present):
    """States that change something when the first one meets them; none that is present is left out."""
    partners = protocol.partners(first)
    # Either list may be much the longer one: few agents leave most states empty, few rules leave most unmoved.
    if len(partners) < len(present):
        return partners
    return [second for second in present if protocol.meet(first, second) != (first, second)]


def meetings(protocol, place):
    """The ascending list of the possible meetings that change a state. Raises WrongCounts."""
    check_place(protocol, place)
    present = [state for state, count in enumerate(place) if count > 0]
    return [
        (first, second)
        for first in present
        for second in _changing_seconds(protocol, first, present)
        if is_possible(place, (first, second))
    ]


def run(protocol, place, meetings):
    """The place after a run. Raises WrongCounts, and then NotPossible with the index of a meeting."""
    check_place(protocol, place)
    here = place
    for index, meeting in enumerate(meetings):
        if not is_possible(here, meeting):
            raise NotPossible(index)
        here = moved(protocol, here, meeting)
    return here


def after(protocol, place, meeting):
    """The place after one meeting. Raises WrongCounts, and then NotPossible(0)."""
    return run(protocol, place, [meeting])


def smallest_meetings(protocol, place):
    """A dict with each successor of a place and the smallest meeting that leads to it. Raises WrongCounts."""
    leading = {}
    for meeting in meetings(protocol, place):
        following = moved(protocol, place, meeting)
        if following != place and following not in leading:
            leading[following] = meeting
    return leading


def successors(protocol, place):
    """The ascending list of the other places to which one meeting leads. Raises WrongCounts."""
    return sorted(smallest_meetings(protocol, place))


def outputs_in(protocol, place):
    """The ascending list of the outputs of the states in which there are agents. Raises WrongCounts."""
    check_place(protocol, place)
    return sorted({output for output, count in zip(protocol.outputs, place) if count > 0})


def total_output(protocol, place):
    """The sum of the outputs of all agents. Raises WrongCounts."""
    check_place(protocol, place)
    return sum([output * count for output, count in zip(protocol.outputs, place)])

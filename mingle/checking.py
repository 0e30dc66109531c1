"""Goals, papers that show whether a protocol keeps them, and checks that find such papers."""

from mingle.bottoms import bottoms, can_reach, step_rows, turned
from mingle.errors import NotPossible
from mingle.formulas import answer
from mingle.graphs import MOST_PLACES, explore
from mingle.places import outputs_in, run, successors, total_output
from mingle.protocols import are_counts


def is_right(protocol, place, goal):
    """True if the place is right for the goal (point 22). Raises WrongCounts."""
    word, number = goal
    if word == "total":
        return total_output(protocol, place) == number
    return outputs_in(protocol, place) in ([], [number])


def _fit(protocol, places):
    """True if all places fit the protocol."""
    return all([are_counts(place, len(protocol)) for place in places])


def _has_right_rank(protocol, goal, ranks, place):
    """True if a place of a paper for yes, its rank and its successors are as point 23 demands."""
    rank = ranks[place]
    following = successors(protocol, place)
    if rank < 0 or not all([other in ranks for other in following]):
        return False
    if rank > 0:
        return min([ranks[other] for other in following], default=rank) < rank
    return is_right(protocol, place, goal) and all([ranks[other] == 0 for other in following])


def shows_yes(protocol, place, goal, paper):
    """True if the paper shows that the goal is kept from the place (point 23)."""
    ranks = dict(paper)
    if place not in ranks or len(ranks) < len(paper) or not _fit(protocol, list(ranks)):
        return False
    for other in ranks:
        if not _has_right_rank(protocol, goal, ranks, other):
            return False
    return True


def _trap_rows(protocol, trap):
    """For each place of a trap the indexes of its successors in the trap; None if one is not in it."""
    numbers = {place: number for number, place in enumerate(trap)}
    rows = []
    for place in trap:
        row = [numbers.get(following) for following in successors(protocol, place)]
        if None in row:
            return None
        rows.append(row)
    return rows


def _distances(rows, targets):
    """For each number the smallest number of steps along the rows to one of the targets, or None."""
    back = turned(rows)
    found = [None] * len(rows)
    for target in targets:
        found[target] = 0
    waiting = list(targets)
    done = 0
    while done < len(waiting):
        here = waiting[done]
        for before in back[here]:
            if found[before] is None:
                found[before] = found[here] + 1
                waiting.append(before)
        done += 1
    return found


def _is_trap(protocol, goal, trap):
    """True if no place of the trap has a way out of it, and each one has a way to a place that is not right."""
    if len(set(trap)) < len(trap) or not _fit(protocol, trap):
        return False
    rows = _trap_rows(protocol, trap)
    if rows is None:
        return False
    wrong = [number for number, place in enumerate(trap) if not is_right(protocol, place, goal)]
    return None not in _distances(rows, wrong)


def shows_no(protocol, place, goal, paper):
    """True if the paper shows that the goal is not kept from the place (point 24)."""
    meetings, trap = paper
    try:
        end = run(protocol, place, meetings)
    except NotPossible:
        return False
    return end in trap and _is_trap(protocol, goal, trap)


def _wrong_numbers(graph, numbers, goal):
    """Those of the numbers whose places are not right for the goal."""
    return [number for number in numbers if not is_right(graph.protocol, graph.place(number), goal)]


def _wrong_bottom(graph, goal):
    """The first bottom with a place that is not right for the goal, or None."""
    for region in bottoms(graph):
        if _wrong_numbers(graph, region, goal):
            return region
    return None


def keeps(graph, goal):
    """True if the protocol keeps the goal from the first place of the graph (point 22)."""
    return _wrong_bottom(graph, goal) is None


def _ranked(graph, goal):
    """The paper for yes with the smallest ranks, in the order of the graph."""
    everything = list(range(len(graph)))
    unsafe = set(can_reach(graph, _wrong_numbers(graph, everything, goal)))
    ranks = _distances(step_rows(graph), [number for number in everything if number not in unsafe])
    return [(graph.place(number), rank) for number, rank in enumerate(ranks)]


def check(protocol, place, goal, *, limit=MOST_PLACES):
    """Whether the goal is kept from the place, "yes" or "no", with a paper (point 25).

    Raises WrongCounts, and TooLarge.
    """
    graph = explore(protocol, place, limit=limit)
    region = _wrong_bottom(graph, goal)
    if region is None:
        return ("yes", _ranked(graph, goal))
    return ("no", (graph.way_to(region[0]), [graph.place(number) for number in region]))


def lists_with_sum(many, wanted):
    """All lists of so many counts with this sum, ascending."""
    if many == 0:
        return [[]] if wanted == 0 else []
    if many == 1:
        return [[wanted]]
    return [[first, *others] for first in range(wanted + 1) for others in lists_with_sum(many - 1, wanted - first)]


def _goal_for(protocol, formula, counts):
    """The goal that the formula's answer sets for the counts of the inputs."""
    named = {name: count for (name, _), count in zip(protocol.inputs, counts)}
    return ("answer", 1 if answer(formula, named) else 0)


def first_failure(protocol, formula, size, *, limit=MOST_PLACES):
    """The first counts with a sum of at most the size for which the protocol does not keep to the formula, or None.

    Raises TooLarge.
    """
    # Inputs may have the same state, so that different counts ask the same.
    tried = set()
    for wanted in range(size + 1):
        for counts in lists_with_sum(len(protocol.inputs), wanted):
            place = protocol.first_place(counts)
            goal = _goal_for(protocol, formula, counts)
            if (place, goal) not in tried:
                tried.add((place, goal))
                if not keeps(explore(protocol, place, limit=limit), goal):
                    return counts
    return None

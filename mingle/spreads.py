"""What a number of random meetings brings."""

from mingle.bottoms import bottoms
from mingle.chances import step_chances
from mingle.checking import is_right
from mingle.fractions import fraction, is_less
from mingle.places import size, total_output


class Walk:
    """Random meetings from the first place of a graph, one after the other.

    The chances after a number of meetings have one common denominator; so only their numerators are kept, the ways.
    """

    def __init__(self, graph):
        agents = size(graph.place(0))
        self._graph = graph
        self._pairs = max(1, agents * (agents - 1))
        self._steps = {}
        self._whole = 1
        self._ways = {0: 1}

    def _steps_from(self, number):
        """The places to which a meeting leads, with the numbers of the pairs of agents that lead there."""
        if number not in self._steps:
            chances = step_chances(self._graph.protocol, self._graph.place(number))
            self._steps[number] = [
                (self._graph.number_of(place), numerator * (self._pairs // denominator))
                for place, (numerator, denominator) in chances
            ]
        return self._steps[number]

    def go_on(self):
        """Adds one meeting."""
        found = {}
        for number, ways in self._ways.items():
            for following, pairs in self._steps_from(number):
                found[following] = found.get(following, 0) + ways * pairs
        self._ways = found
        self._whole = self._whole * self._pairs

    def chances(self):
        """The ascending list of the places that are possible, with their chances."""
        return [(number, fraction(self._ways[number], self._whole)) for number in sorted(self._ways)]

    def mean(self, worths):
        """The mean of what the places are worth, with one integer for each of them."""
        return fraction(sum([ways * worths[number] for number, ways in self._ways.items()]), self._whole)


def _walked(graph, count):
    """The walk after so many meetings."""
    walk = Walk(graph)
    for _ in range(count):
        walk.go_on()
    return walk


def spread(graph, count):
    """The ascending list of the places after so many meetings, with their chances (point 52)."""
    return _walked(graph, count).chances()


def _places(graph):
    return [graph.place(number) for number in range(len(graph))]


def right_chance(graph, goal, count):
    """The chance that the place after so many meetings is right for the goal."""
    worths = [1 if is_right(graph.protocol, place, goal) else 0 for place in _places(graph)]
    return _walked(graph, count).mean(worths)


def mean_total(graph, count):
    """The mean of the sum of the outputs after so many meetings."""
    return _walked(graph, count).mean([total_output(graph.protocol, place) for place in _places(graph)])


def _in_bottoms(graph):
    """For each place 1 if it is in a bottom, otherwise 0."""
    worths = [0] * len(graph)
    for region in bottoms(graph):
        for number in region:
            worths[number] = 1
    return worths


def meetings_until(graph, chance, most):
    """The smallest number of meetings, at most so many, after which a bottom has this chance, or None."""
    worths = _in_bottoms(graph)
    walk = Walk(graph)
    for count in range(most + 1):
        if count > 0:
            walk.go_on()
        if not is_less(walk.mean(worths), chance):
            return count
    return None

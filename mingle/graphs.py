"""The graph of all places that can be reached."""

from mingle.errors import TooLarge
from mingle.places import smallest_meetings

MOST_PLACES = 2000


class Graph:
    """All places that can be reached from the first one, numbered in the order of their discovery (point 9).

    The origin of a place is the number of the place from which it was discovered
    and the smallest meeting that leads from there to it; the first place has none.
    """

    def __init__(self, protocol, places, steps, origins):
        self.protocol = protocol
        self._places = tuple(places)
        self._numbers = {place: number for number, place in enumerate(places)}
        self._steps = tuple([tuple(row) for row in steps])
        self._origins = tuple(origins)

    def __len__(self):
        return len(self._places)

    def place(self, number):
        """The place with a number."""
        return self._places[number]

    def number_of(self, place):
        """The number of a place, or None if it cannot be reached."""
        return self._numbers.get(place)

    def steps(self, number):
        """The ascending list of the numbers of the successors of a place."""
        return list(self._steps[number])

    def way_to(self, number):
        """A run with the fewest meetings that change something from the first place to this one."""
        way = []
        origin = self._origins[number]
        while origin is not None:
            before, meeting = origin
            way.append(meeting)
            origin = self._origins[before]
        way.reverse()
        return way


def explore(protocol, place, *, limit=MOST_PLACES):
    """The graph of a protocol from a place. Raises WrongCounts, and TooLarge if it has more places than the limit."""
    places = [place]
    numbers = {place: 0}
    origins = [None]
    steps = []
    while len(steps) < len(places):
        here = len(steps)
        leading = smallest_meetings(protocol, places[here])
        for following in sorted(leading):
            if following not in numbers:
                if len(places) == limit:
                    raise TooLarge(limit)
                numbers[following] = len(places)
                places.append(following)
                origins.append((here, leading[following]))
        steps.append(sorted([numbers[following] for following in leading]))
    return Graph(protocol, places, steps, origins)

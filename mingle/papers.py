"""Written papers."""

from mingle.checking import shows_no, shows_yes
from mingle.errors import InvalidText
from mingle.protocoltext import is_decimal

MOST_DIGITS = 30


def _line(word, numbers):
    return " ".join([word, *[str(number) for number in numbers]])


def _paper_lines(protocol, answer):
    """The lines of a paper, and the one before it that tells what it shows."""
    word, paper = answer
    if word == "yes":
        return [word, *[_line("rank", [rank, *place]) for place, rank in paper]]
    meetings, trap = paper
    meets = [f"meet {protocol.states[first]} {protocol.states[second]}" for first, second in meetings]
    return [word, *meets, *[_line("trap", place) for place in trap]]


def format_paper(protocol, place, goal, answer):
    """The text of a paper (point 54); the answer is "yes" or "no" with the paper."""
    return "\n".join([_line("place", place), _line("goal", goal), *_paper_lines(protocol, answer)])


class Lines:
    """The lines of a written paper, which are read one by one. Its methods raise InvalidText."""

    def __init__(self, protocol, text):
        self._protocol = protocol
        self._rows = [line.split(" ") for line in text.split("\n")]
        self._taken = 0

    def _demand(self, holds):
        """Raises InvalidText for the line that was taken last."""
        if not holds:
            raise InvalidText(self._taken)

    def is_left(self):
        """True if there is a further line."""
        return self._taken < len(self._rows)

    def follows(self, word):
        """True if there is a further line, and it begins with this word."""
        return self.is_left() and self._rows[self._taken][0] == word

    def _take(self, word, many):
        """Takes the next line, which begins with this word, and returns those behind it, which are so many."""
        follows = self.follows(word)
        self._taken += 1
        self._demand(follows)
        words = self._rows[self._taken - 1][1:]
        self._demand(len(words) == many)
        return words

    def _integers(self, words):
        self._demand(all([is_decimal(word, MOST_DIGITS) for word in words]))
        return [int(word) for word in words]

    def take_place(self, word):
        """Takes a line with this word and a place."""
        return tuple(self._integers(self._take(word, len(self._protocol))))

    def take_goal(self):
        """Takes a line with a goal."""
        word, number = self._take("goal", 2)
        self._demand(word in ("answer", "total"))
        return (word, self._integers([number])[0])

    def take_word(self, word):
        """Takes a line that consists of this word."""
        self._take(word, 0)

    def take_ranked(self):
        """Takes a line with a rank and a place, and returns the pair of the place and the rank."""
        rank, *place = self._integers(self._take("rank", len(self._protocol) + 1))
        return (tuple(place), rank)

    def take_meeting(self):
        """Takes a line with a meeting."""
        names = self._take("meet", 2)
        self._demand(all([name in self._protocol.states for name in names]))
        return tuple([self._protocol.number(name) for name in names])


def _take_yes(lines):
    """The paper that the lines behind "yes" tell."""
    paper = []
    while lines.is_left():
        paper.append(lines.take_ranked())
    return paper


def _take_no(lines):
    """The paper that the lines behind "no" tell."""
    meetings = []
    while lines.follows("meet"):
        meetings.append(lines.take_meeting())
    trap = []
    while lines.is_left():
        trap.append(lines.take_place("trap"))
    return (meetings, trap)


def parse_paper(protocol, text):
    """The place, the goal, and the answer with its paper. Raises InvalidText with the number of a line."""
    lines = Lines(protocol, text)
    place = lines.take_place("place")
    goal = lines.take_goal()
    if lines.follows("no"):
        lines.take_word("no")
        return (place, goal, ("no", _take_no(lines)))
    lines.take_word("yes")
    return (place, goal, ("yes", _take_yes(lines)))


def is_accepted(protocol, text):
    """True if the written paper shows what it says (point 55). Raises InvalidText."""
    place, goal, (word, paper) = parse_paper(protocol, text)
    if word == "yes":
        return shows_yes(protocol, place, goal, paper)
    return shows_no(protocol, place, goal, paper)

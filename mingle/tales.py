"""Tales: meetings of a crowd that are told line by line."""

from mingle.crowds import follow, place_of
from mingle.errors import NotAgents, UnknownState
from mingle.places import outputs_in
from mingle.protocoltext import is_decimal
from mingle.tasks import BAD_LINE

FACTOR = 48271
MODULUS = 2147483647
MOST_DRAWN = 500
MOST_DIGITS = 9


def _following(seed):
    return (seed * FACTOR + 1) % MODULUS


def drawn(seed, agents, count):
    """The schedule of so many meetings that follow from a seed (point 73)."""
    state = seed
    schedule = []
    for _ in range(count):
        state = _following(state)
        first = state % agents
        state = _following(state)
        second = state % (agents - 1)
        schedule.append((first, second + 1 if second >= first else second))
    return schedule


class Tale:
    """A crowd of a protocol. The methods raise UnknownState and NotAgents, and change nothing then."""

    def __init__(self, protocol):
        self._protocol = protocol
        self._crowd = []

    def _names(self, crowd):
        """The names of the states of agents."""
        return [self._protocol.states[state] for state in crowd]

    def gather(self, names):
        """Begins a new crowd, with one agent for each name of a state."""
        self._crowd = [self._protocol.number(name) for name in names]
        return f"crowd {len(self._crowd)}"

    def meet(self, first, second):
        """Lets two agents meet."""
        self._crowd = follow(self._protocol, self._crowd, [(first, second)])
        return " ".join(self._names([self._crowd[first], self._crowd[second]]))

    def draw(self, seed, count):
        """Lets drawn pairs of agents meet."""
        # No pair can be drawn from fewer agents.
        if count > 0 and len(self._crowd) < 2:
            raise NotAgents(0)
        self._crowd = follow(self._protocol, self._crowd, drawn(seed, len(self._crowd), count))
        return f"drawn {count}"

    def show(self):
        """Tells the states of all agents."""
        return " ".join(["show", *self._names(self._crowd)])

    def count_in(self, name):
        """Tells how many agents are in a state."""
        return f"count {self._crowd.count(self._protocol.number(name))}"

    def tell_outputs(self):
        """Tells which outputs the agents have."""
        found = outputs_in(self._protocol, place_of(self._protocol, self._crowd))
        return " ".join(["outputs", *[str(output) for output in found]])


def _reply_to_numbers(tale, word, words):
    """The reply to a line with two numbers. Raises NotAgents."""
    if not all([is_decimal(number, MOST_DIGITS) for number in words]):
        return BAD_LINE
    first, second = [int(number) for number in words]
    if word == "meet":
        return tale.meet(first, second)
    return tale.draw(first, second) if second <= MOST_DRAWN else BAD_LINE


def _reply_to(tale, word, words):
    """The reply to a line with a first word and further ones (point 72). Raises UnknownState, and NotAgents."""
    if word == "crowd":
        return tale.gather(words)
    if word in ("meet", "draw") and len(words) == 2:
        return _reply_to_numbers(tale, word, words)
    if word == "count" and len(words) == 1:
        return tale.count_in(words[0])
    if word == "show" and not words:
        return tale.show()
    if word == "outputs" and not words:
        return tale.tell_outputs()
    return BAD_LINE


def _reply(tale, line):
    word, *words = line.split(" ")
    try:
        return _reply_to(tale, word, words)
    except (UnknownState, NotAgents):
        return BAD_LINE


def tell(protocol, text):
    """The replies to the lines of a tale about a crowd of the protocol, which has no agents at first (point 72)."""
    tale = Tale(protocol)
    return [_reply(tale, line) for line in text.split("\n")]

"""Names and protocols."""

from mingle.errors import InvalidRulebook, UnknownState, WrongCounts

LETTERS = "abcdefghijklmnopqrstuvwxyz"
DIGITS = "0123456789"
LONGEST_NAME = 12
MOST_STATES = 400
MOST_INPUTS = 8
MOST_LEADERS = 10
GREATEST_OUTPUT = 9


def is_name(name):
    """True if the string is a name (point 3)."""
    if not 1 <= len(name) <= LONGEST_NAME:
        return False
    return name[0] in LETTERS and all([sign in LETTERS or sign in DIGITS for sign in name])


def are_counts(counts, many):
    """True if there are as many counts as asked for, and none is negative."""
    return len(counts) == many and min(counts, default=0) >= 0


def _demand(holds, why):
    if not holds:
        raise InvalidRulebook(why)


class Draft:
    """A protocol in the making.

    It takes the parts of a protocol one by one, states first, and raises
    InvalidRulebook for a part that breaks point 4 together with those before it.
    """

    def __init__(self):
        self.states = []
        self.inputs = []
        self.leaders = []
        self.rules = []
        self.outputs = []
        self.numbers = {}
        self.results = {}

    def add_state(self, name, output):
        """Takes the next state and its output."""
        _demand(len(self.states) < MOST_STATES, f"there are more than {MOST_STATES} states")
        _demand(is_name(name), f"{name} is not a name")
        _demand(name not in self.numbers, f"the state {name} occurs twice")
        _demand(0 <= output <= GREATEST_OUTPUT, f"the output {output} is out of range")
        self.numbers[name] = len(self.states)
        self.states.append(name)
        self.outputs.append(output)

    def add_input(self, pair):
        """Takes the next input, a pair of its name and a state."""
        _demand(len(self.inputs) < MOST_INPUTS, f"there are more than {MOST_INPUTS} inputs")
        _demand(len(pair) == 2, "an input is not a pair")
        name, state = pair
        _demand(is_name(name), f"{name} is not a name")
        _demand(name not in [known for known, _ in self.inputs], f"the input {name} occurs twice")
        self._demand_state(state)
        self.inputs.append((name, state))

    def add_leader(self, state):
        """Takes the next leader."""
        _demand(len(self.leaders) < MOST_LEADERS, f"there are more than {MOST_LEADERS} leaders")
        self._demand_state(state)
        self.leaders.append(state)

    def add_rule(self, rule):
        """Takes the next rule, a tuple of four states."""
        _demand(len(rule) == 4, "a rule does not have four states")
        for state in rule:
            self._demand_state(state)
        first, second, third, fourth = [self.numbers[state] for state in rule]
        _demand((first, second) not in self.results, f"there are two rules for {rule[0]} and {rule[1]}")
        self.results[first, second] = (third, fourth)
        self.rules.append(tuple(rule))

    def _demand_state(self, name):
        _demand(name in self.numbers, f"no state is called {name}")


def _drafted(states, inputs, leaders, rules, outputs):
    """The draft with these parts. Raises InvalidRulebook."""
    _demand(len(outputs) == len(states), "there are not as many outputs as states")
    draft = Draft()
    for name, output in zip(states, outputs):
        draft.add_state(name, output)
    for pair in inputs:
        draft.add_input(pair)
    for state in leaders:
        draft.add_leader(state)
    for rule in rules:
        draft.add_rule(rule)
    return draft


def _partners(results, many):
    """For each state the ascending tuple of those that it meets with a change of one of the two."""
    rows = [[] for _ in range(many)]
    for pair in sorted(results):
        if results[pair] != pair:
            rows[pair[0]].append(pair[1])
    return tuple([tuple(row) for row in rows])


class Rulebook:
    """A protocol: states, inputs, leaders, rules and outputs (point 4)."""

    def __init__(self, states, inputs, leaders, rules, outputs):
        draft = _drafted(states, inputs, leaders, rules, outputs)
        self.states = tuple(draft.states)
        self.inputs = tuple(draft.inputs)
        self.leaders = tuple(draft.leaders)
        self.rules = tuple(draft.rules)
        self.outputs = tuple(draft.outputs)
        self._numbers = draft.numbers
        self._results = draft.results
        self._rows = _partners(draft.results, len(draft.states))

    def __len__(self):
        return len(self.states)

    def __eq__(self, other):
        return (
            isinstance(other, Rulebook)
            and self.states == other.states
            and self.inputs == other.inputs
            and self.leaders == other.leaders
            and self.rules == other.rules
            and self.outputs == other.outputs
        )

    def number(self, name):
        """The index of a state. Raises UnknownState."""
        if name not in self._numbers:
            raise UnknownState(name)
        return self._numbers[name]

    def meet(self, first, second):
        """The pair of indexes of states after a meeting of agents in two states."""
        return self._results.get((first, second), (first, second))

    def partners(self, first):
        """The ascending tuple of the states that change something when they are met by the first one."""
        return self._rows[first]

    def first_place(self, counts):
        """The place for a list of counts of the inputs (point 5). Raises WrongCounts."""
        if not are_counts(counts, len(self.inputs)):
            raise WrongCounts("there is not one count, not negative, for each input")
        place = [0] * len(self.states)
        for (_, state), count in zip(self.inputs, counts):
            place[self._numbers[state]] += count
        for state in self.leaders:
            place[self._numbers[state]] += 1
        return tuple(place)

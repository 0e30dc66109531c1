"""The errors of the program."""


class MingleError(ValueError):
    """The base class of all errors of the program."""


class InvalidRulebook(MingleError):
    """A protocol breaks point 4."""


class WrongCounts(MingleError):
    """There are more or fewer counts than inputs or states, or one is negative."""


class NotPossible(MingleError):
    """A meeting of a run is not possible; `index` tells the first such one."""

    def __init__(self, index):
        super().__init__(f"the meeting {index} is not possible")
        self.index = index


class UnknownState(MingleError):
    """A protocol has no state called `name`."""

    def __init__(self, name):
        super().__init__(f"no state is called {name}")
        self.name = name


class InvalidText(MingleError):
    """A text is not valid; `line` is the number of its first wrong line, counted from 1."""

    def __init__(self, line):
        super().__init__(f"line {line} is wrong")
        self.line = line


class TooLarge(MingleError):
    """There would be more than `limit` things to look at."""

    def __init__(self, limit):
        super().__init__(f"the limit {limit} is passed")
        self.limit = limit


class InvalidFormula(MingleError):
    """A formula or its text is not valid."""


class UnknownName(MingleError):
    """Nothing is given for `name`."""

    def __init__(self, name):
        super().__init__(f"the name {name} is not known")
        self.name = name


class TooManyStates(MingleError):
    """A protocol would have more than `limit` states."""

    def __init__(self, limit):
        super().__init__(f"there would be more than {limit} states")
        self.limit = limit


class InvalidFunction(MingleError):
    """A function is not valid (point 28)."""


class NotJoinable(MingleError):
    """Two protocols cannot be joined."""


class NotAgents(MingleError):
    """A pair of a schedule does not consist of two different agents; `index` tells the first such one."""

    def __init__(self, index):
        super().__init__(f"the pair {index} does not consist of two different agents")
        self.index = index


class InvalidTask(MingleError):
    """A task is refused (point 45)."""

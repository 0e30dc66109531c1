"""Tasks: questions about a protocol that are answered from text."""

from mingle.bottoms import bottoms
from mingle.chances import expected_meetings
from mingle.checking import first_failure, keeps
from mingle.compiling import compile_formula
from mingle.errors import InvalidFormula, InvalidTask, InvalidText, TooLarge
from mingle.formulatext import parse_formula
from mingle.graphs import explore
from mingle.places import total_output
from mingle.protocols import GREATEST_OUTPUT
from mingle.protocoltext import is_decimal, parse_protocol

BAD_LINE = "bad line"
MOST_DIGITS = 4
GREATEST_SIZE = 12


class Task:
    """The protocol of a task, its formula, or None if there is none, and the lines with its questions."""

    def __init__(self, protocol, formula, questions):
        self.protocol = protocol
        self.formula = formula
        self.questions = questions


def _formula_task(text, questions):
    """The task that begins with the text of a formula. Raises InvalidTask, and TooManyStates."""
    try:
        formula = parse_formula(text)
    except InvalidFormula:
        raise InvalidTask("the formula is not valid") from None
    return Task(compile_formula(formula), formula, questions)


def _protocol_task(lines):
    """The task whose protocol stands in these lines, up to one that is "end". Raises InvalidTask."""
    if "end" not in lines:
        raise InvalidTask("the protocol has no end")
    end = lines.index("end")
    try:
        protocol = parse_protocol("\n".join(lines[:end]))
    except InvalidText:
        raise InvalidTask("the protocol is not valid") from None
    return Task(protocol, None, lines[end + 1:])


def _parsed(text):
    """The task with this text. Raises InvalidTask, and TooManyStates."""
    first, *others = text.split("\n")
    if first.startswith("decide "):
        return _formula_task(first.removeprefix("decide "), others)
    if first == "protocol":
        return _protocol_task(others)
    raise InvalidTask("the first line is not valid")


def _ask(graph):
    """The reply that tells what all agents answer in the end."""
    for number in range(GREATEST_OUTPUT + 1):
        if keeps(graph, ("answer", number)):
            return f"answer {number}"
    return "no answer"


def _total(graph):
    """The reply that tells the sum of the outputs in the end."""
    # A goal that is kept is right at this place, too.
    number = total_output(graph.protocol, graph.place(bottoms(graph)[0][0]))
    return f"total {number}" if keeps(graph, ("total", number)) else "no total"


def _mean(graph):
    """The reply that tells the expected number of meetings."""
    numerator, denominator = expected_meetings(graph)
    return str(numerator) if denominator == 1 else f"{numerator} / {denominator}"


QUESTIONS = {"ask": _ask, "total": _total, "mean": _mean}


def _test(task, numbers):
    """The reply that tells whether the protocol decides the formula, for a list of one size."""
    if task.formula is None or len(numbers) != 1 or numbers[0] > GREATEST_SIZE:
        return BAD_LINE
    failure = first_failure(task.protocol, task.formula, numbers[0])
    if failure is None:
        return "right"
    return " ".join(["wrong", *[str(count) for count in failure]])


def _answered(task, word, numbers):
    """The reply to a question with a word and numbers. Raises TooLarge."""
    if word == "test":
        return _test(task, numbers)
    if word not in QUESTIONS or len(numbers) != len(task.protocol.inputs):
        return BAD_LINE
    action = QUESTIONS[word]
    return action(explore(task.protocol, task.protocol.first_place(numbers)))


def _reply(task, line):
    """The reply to a line (points 44 and 45)."""
    word, *told = line.split(" ")
    if not all([is_decimal(number, MOST_DIGITS) for number in told]):
        return BAD_LINE
    try:
        return _answered(task, word, [int(number) for number in told])
    except TooLarge:
        return "too large"


def run_task(text):
    """The replies to the questions of a task, in their order. Raises InvalidTask, and TooManyStates."""
    task = _parsed(text)
    return [_reply(task, line) for line in task.questions]

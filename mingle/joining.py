"""Two protocols that run at once."""

from mingle.errors import NotJoinable
from mingle.marks import find_marks, protocol_of


def _check_joinable(first, second):
    """Raises NotJoinable if the protocols have other inputs or other numbers of leaders."""
    if [name for name, _ in first.inputs] != [name for name, _ in second.inputs]:
        raise NotJoinable("the inputs are not the same")
    if len(first.leaders) != len(second.leaders):
        raise NotJoinable("there are not as many leaders")


def _input_pairs(first, second):
    """For each input its name and the pair of the numbers of its states."""
    return [
        (name, (first.number(left), second.number(right)))
        for (name, left), (_, right) in zip(first.inputs, second.inputs)
    ]


def _leader_pairs(first, second):
    """For each leader the pair of the numbers of its states."""
    return [(first.number(left), second.number(right)) for left, right in zip(first.leaders, second.leaders)]


def _find_pairs(first, second):
    """The pairs of numbers of states that can occur. Raises NotJoinable, and TooManyStates."""
    _check_joinable(first, second)

    def meet(one, other):
        left = first.meet(one[0], other[0])
        right = second.meet(one[1], other[1])
        return tuple(zip(left, right))

    begin = [pair for _, pair in _input_pairs(first, second)]
    return find_marks(begin + _leader_pairs(first, second), meet)


def _output(word, left, right):
    """The output that the word gives to a pair of states with these outputs."""
    if word == "and":
        return min(left, right)
    if word == "or":
        return max(left, right)
    return left if word == "left" else right


def joined_pairs(first, second):
    """The pairs of names of states for which the states of the joined protocol stand, in order.

    Raises NotJoinable, and then TooManyStates.
    """
    return [(first.states[left], second.states[right]) for left, right in _find_pairs(first, second).marks]


def joined(first, second, word):
    """The protocol that lets both run at once, with outputs as the word tells (point 31).

    Raises NotJoinable, and then TooManyStates.
    """
    found = _find_pairs(first, second)
    outputs = [_output(word, first.outputs[left], second.outputs[right]) for left, right in found.marks]
    return protocol_of(found, _input_pairs(first, second), _leader_pairs(first, second), outputs)

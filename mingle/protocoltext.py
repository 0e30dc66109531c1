"""Written protocols."""

from mingle.errors import InvalidRulebook, InvalidText
from mingle.protocols import DIGITS, Draft, Rulebook

KINDS = ("state", "input", "leader", "rule")


def format_protocol(protocol):
    """The text of a protocol (point 7)."""
    lines = [f"state {name} {output}" for name, output in zip(protocol.states, protocol.outputs)]
    lines.extend([f"input {name} {state}" for name, state in protocol.inputs])
    lines.extend([f"leader {state}" for state in protocol.leaders])
    for first, second, third, fourth in protocol.rules:
        lines.append(f"rule {first} {second} to {third} {fourth}")
    return "\n".join(lines)


def parse_protocol(text):
    """The protocol with this text. Raises InvalidText with the number of the first wrong line."""
    # The empty string has no line, not an empty one.
    lines = text.split("\n") if text else []
    draft = Draft()
    kind = 0
    for number, line in enumerate(lines, start=1):
        words = line.split(" ")
        if words[0] not in KINDS[kind:]:
            raise InvalidText(number)
        kind = KINDS.index(words[0])
        try:
            _add_line(draft, words)
        except InvalidRulebook:
            raise InvalidText(number) from None
    return Rulebook(draft.states, draft.inputs, draft.leaders, draft.rules, draft.outputs)


def _add_line(draft, words):
    """Adds what a line says to the draft. Raises InvalidRulebook if the line has no form or breaks point 4."""
    if words[0] == "state" and len(words) == 3:
        draft.add_state(words[1], _output(words[2]))
    elif words[0] == "input" and len(words) == 3:
        draft.add_input((words[1], words[2]))
    elif words[0] == "leader" and len(words) == 2:
        draft.add_leader(words[1])
    elif words[0] == "rule" and len(words) == 6 and words[3] == "to":
        draft.add_rule((words[1], words[2], words[4], words[5]))
    else:
        raise InvalidRulebook("the line has no form")


def is_decimal(word, digits):
    """True if the word is a number in decimal without leading zeros and with at most so many digits."""
    if not 1 <= len(word) <= digits or not all([sign in DIGITS for sign in word]):
        return False
    return word == "0" or word[0] != "0"


def _output(word):
    """The output that a word tells. Raises InvalidRulebook if it is not one digit."""
    if not is_decimal(word, 1):
        raise InvalidRulebook("an output is not one digit")
    return int(word)

"""Point 31: joined protocols."""

import random
import unittest

from mingle.checking import check
from mingle.compiling import compile_text
from mingle.errors import NotJoinable, TooManyStates
from mingle.formulas import answer, variables
from mingle.formulatext import parse_formula
from mingle.joining import joined, joined_pairs
from mingle.places import outputs_in
from mingle.protocols import Rulebook
from samples import counts_up_to, drawn_protocol, names

WORDS = ["and", "or", "left", "right"]
EMPTY = Rulebook([], [], [], [], [])


def told_output(word, left, right):
    return {"and": min(left, right), "or": max(left, right), "left": left, "right": right}[word]


def with_parts(protocol, inputs, leaders):
    return Rulebook(protocol.states, inputs, leaders, protocol.rules, protocol.outputs)


def naive_pairs(first, second):
    """The pairs of names of states in the order of points 20 and 31."""
    found = []
    begin = [(left, right) for (_, left), (_, right) in zip(first.inputs, second.inputs)]
    for pair in begin + list(zip(first.leaders, second.leaders)):
        if pair not in found:
            found.append(pair)
    while True:
        before = list(found)
        for one in before:
            for other in before:
                lefts = first.meet(first.number(one[0]), first.number(other[0]))
                rights = second.meet(second.number(one[1]), second.number(other[1]))
                for left, right in zip(lefts, rights):
                    if (first.states[left], second.states[right]) not in found:
                        found.append((first.states[left], second.states[right]))
        if found == before:
            return found


def naive_joined(first, second, word):
    pairs = naive_pairs(first, second)
    states = {pair: "q" + str(number) for number, pair in enumerate(pairs)}
    rules = []
    for one in pairs:
        for other in pairs:
            lefts = first.meet(first.number(one[0]), first.number(other[0]))
            rights = second.meet(second.number(one[1]), second.number(other[1]))
            third, fourth = [(first.states[left], second.states[right]) for left, right in zip(lefts, rights)]
            if (third, fourth) != (one, other):
                rules.append((states[one], states[other], states[third], states[fourth]))
    inputs = [(name, states[left, right]) for (name, left), (_, right) in zip(first.inputs, second.inputs)]
    leaders = [states[pair] for pair in zip(first.leaders, second.leaders)]
    outputs = [
        told_output(word, first.outputs[first.number(left)], second.outputs[second.number(right)])
        for left, right in pairs
    ]
    return Rulebook(list(states.values()), inputs, leaders, rules, outputs)


def counting(many, at):
    """An agent that is in a meeting at this position goes on to the next state, round and round."""
    states = names(many)
    rules = []
    for number, state in enumerate(states):
        following = states[(number + 1) % many]
        for other in states:
            if at == 0:
                rules.append((state, other, following, other))
            else:
                rules.append((other, state, other, following))
    return Rulebook(states, [("x", "s0")], [], rules, [1] * many)


class JoinedTest(unittest.TestCase):
    def setUp(self):
        self.first = Rulebook(["a", "b"], [("x", "a"), ("y", "b")], [], [("a", "b", "a", "a")], [3, 7])
        self.second = Rulebook(["c", "d", "e"], [("x", "c"), ("y", "d")], [], [("d", "c", "e", "c")], [5, 1, 9])

    def test_pairs_in_their_order(self):
        pairs = [("a", "c"), ("b", "d"), ("a", "d"), ("b", "e"), ("a", "e")]
        self.assertEqual(joined_pairs(self.first, self.second), pairs)
        self.assertEqual(joined_pairs(self.second, self.first), [(right, left) for left, right in pairs])

    def test_a_joined_protocol(self):
        protocol = joined(self.first, self.second, "left")
        self.assertIsInstance(protocol, Rulebook)
        self.assertEqual(protocol.states, ("q0", "q1", "q2", "q3", "q4"))
        self.assertEqual([protocol.inputs, protocol.leaders], [(("x", "q0"), ("y", "q1")), ()])
        rules = (("q0", "q1", "q0", "q2"), ("q0", "q3", "q0", "q4"), ("q1", "q0", "q3", "q0"),
                 ("q2", "q0", "q4", "q0"), ("q2", "q1", "q2", "q2"), ("q2", "q3", "q2", "q4"),
                 ("q4", "q1", "q4", "q2"), ("q4", "q3", "q4", "q4"))
        self.assertEqual(protocol.rules, rules)

    def test_words(self):
        for word, outputs in [("and", (3, 1, 1, 7, 3)), ("or", (5, 7, 3, 9, 9)), ("left", (3, 7, 3, 7, 3)),
                              ("right", (5, 1, 1, 9, 9))]:
            self.assertEqual(joined(self.first, self.second, word).outputs, outputs, word)

    def test_outputs_above_1(self):
        first = Rulebook(["a"], [("x", "a")], [], [], [9])
        second = Rulebook(["a"], [("x", "a")], [], [], [0])
        outputs = [joined(first, second, word).outputs for word in WORDS]
        self.assertEqual(outputs, [(0,), (9,), (9,), (0,)])

    def test_leaders(self):
        first = with_parts(self.first, [("x", "a")], ["b", "b", "a"])
        second = with_parts(self.second, [("x", "c")], ["d", "d", "c"])
        self.assertEqual(joined_pairs(first, second)[:2], [("a", "c"), ("b", "d")])
        self.assertEqual(joined(first, second, "and").leaders, ("q1", "q1", "q0"))
        second = with_parts(self.second, [("x", "c")], ["d", "e", "d"])
        self.assertEqual(joined_pairs(first, second)[:4], [("a", "c"), ("b", "d"), ("b", "e"), ("a", "d")])
        self.assertEqual(joined(first, second, "or").leaders, ("q1", "q2", "q3"))

    def test_only_leaders(self):
        first = with_parts(self.first, [], ["b", "a"])
        second = with_parts(self.second, [], ["c", "d"])
        protocol = joined(first, second, "right")
        self.assertEqual([protocol.inputs, protocol.leaders], [(), ("q0", "q1")])
        self.assertEqual(protocol, naive_joined(first, second, "right"))
        self.assertEqual(joined_pairs(first, second)[:2], [("b", "c"), ("a", "d")])

    def test_inputs_of_the_same_state(self):
        first = with_parts(self.first, [("x", "a"), ("y", "a"), ("z", "b")], [])
        second = with_parts(self.second, [("x", "c"), ("y", "c"), ("z", "c")], [])
        protocol = joined(first, second, "left")
        self.assertEqual(protocol.inputs, (("x", "q0"), ("y", "q0"), ("z", "q1")))
        self.assertEqual(joined_pairs(first, second)[:2], [("a", "c"), ("b", "c")])

    def test_protocols_without_states(self):
        for word in WORDS:
            self.assertEqual(joined(EMPTY, EMPTY, word), EMPTY)
            # Without inputs and leaders no state can occur.
            idle = with_parts(self.first, [], [])
            self.assertEqual(joined(EMPTY, idle, word), EMPTY)
            self.assertEqual(joined(idle, idle, word), EMPTY)
        self.assertEqual(joined_pairs(EMPTY, EMPTY), [])

    def test_with_itself(self):
        protocol = compile_text("x + -1 * y >= 1")
        self.assertEqual(joined_pairs(protocol, protocol), [(state, state) for state in protocol.states])
        for word in WORDS:
            self.assertEqual(joined(protocol, protocol, word), protocol)

    def test_drawn_protocols(self):
        draw = random.Random(6)
        for seed in range(40):
            parts = []
            for many in [3, 4]:
                protocol = drawn_protocol(100 * many + seed, many)
                inputs = [(name, draw.choice(protocol.states)) for name in ["x", "a"]]
                leaders = [draw.choice(protocol.states) for _ in range(seed % 3)]
                parts.append(with_parts(protocol, inputs, leaders))
            self.assertEqual(joined_pairs(*parts), naive_pairs(*parts), seed)
            for word in WORDS:
                self.assertEqual(joined(*parts, word), naive_joined(*parts, word), seed)


class RefusedTest(unittest.TestCase):
    def refused(self, first, second):
        for one, other in [(first, second), (second, first)]:
            with self.assertRaises(NotJoinable):
                joined_pairs(one, other)
            for word in WORDS:
                with self.assertRaises(NotJoinable):
                    joined(one, other, word)

    def setUp(self):
        self.plain = Rulebook(["a", "b"], [], [], [], [0, 1])

    def inputs(self, *told, leaders=()):
        return with_parts(self.plain, [(name, "a") for name in told], list(leaders))

    def test_inputs(self):
        self.refused(self.inputs("x"), self.inputs("y"))
        self.refused(self.inputs("x", "y"), self.inputs("y", "x"))
        self.refused(self.inputs("x", "y"), self.inputs("x"))
        self.refused(self.inputs("x", "y", "z"), self.inputs("x", "y"))
        self.refused(self.inputs("x"), self.inputs())
        self.refused(self.inputs("x"), EMPTY)
        self.refused(self.inputs("x", "y", "z"), self.inputs("x", "y", "w"))

    def test_leaders(self):
        self.refused(self.inputs("x", leaders="a"), self.inputs("x"))
        self.refused(self.inputs("x", leaders="aab"), self.inputs("x", leaders="ab"))
        self.refused(self.inputs(leaders="a"), EMPTY)
        self.assertEqual(joined(self.inputs(leaders="ab"), self.inputs(leaders="ba"), "and").leaders, ("q0", "q1"))

    def test_400_states(self):
        protocol = joined(counting(20, 0), counting(20, 1), "and")
        self.assertEqual([len(protocol), protocol.states[399]], [400, "q399"])
        self.assertEqual(len(set(joined_pairs(counting(20, 0), counting(20, 1)))), 400)

    def test_more_states(self):
        first, second = counting(20, 0), counting(21, 1)
        for word in WORDS:
            with self.assertRaises(TooManyStates) as caught:
                joined(first, second, word)
            self.assertEqual(caught.exception.limit, 400)
        with self.assertRaises(TooManyStates) as caught:
            joined_pairs(first, second)
        self.assertEqual(caught.exception.limit, 400)

    def test_not_joinable_comes_first(self):
        first, second = counting(20, 0), counting(21, 1)
        self.refused(first, with_parts(second, [("y", "s0")], []))
        self.refused(first, with_parts(second, [("x", "s0")], ["s0"]))
        self.refused(first, with_parts(second, [("x", "s0"), ("y", "s0")], []))


class GoalsTest(unittest.TestCase):
    """If both protocols keep an answer, the joined one keeps the answer that the word gives."""

    def test_compiled_protocols(self):
        texts = ["x >= 2 and y >= 0", "x + y = 1 mod 2", "x + -1 * y >= 1"]
        for left in texts:
            for right in texts:
                formulas = [parse_formula(text) for text in [left, right]]
                self.assertEqual([variables(formula) for formula in formulas], [["x", "y"]] * 2)
                for word in WORDS:
                    protocol = joined(compile_text(left), compile_text(right), word)
                    for counts in counts_up_to(2, 3):
                        told = [int(answer(formula, dict(zip("xy", counts)))) for formula in formulas]
                        goal = ("answer", told_output(word, *told))
                        self.assertEqual(check(protocol, protocol.first_place(counts), goal)[0], "yes")

    def test_both_run_as_they_do_alone(self):
        draw = random.Random(7)
        first, second = drawn_protocol(3, 4), drawn_protocol(4, 3)
        protocol = joined(first, second, "left")
        pairs = joined_pairs(first, second)
        crowd, left, right = [0] * 6, [0] * 6, [0] * 6
        for _ in range(300):
            one, other = draw.sample(range(6), 2)
            crowd[one], crowd[other] = protocol.meet(crowd[one], crowd[other])
            left[one], left[other] = first.meet(left[one], left[other])
            right[one], right[other] = second.meet(right[one], right[other])
            expected = [(first.states[here], second.states[there]) for here, there in zip(left, right)]
            self.assertEqual([pairs[state] for state in crowd], expected)

    def test_no_agent(self):
        protocol = joined(compile_text("x >= 1"), compile_text("x = 0 mod 2"), "and")
        self.assertEqual(outputs_in(protocol, protocol.first_place([0])), [])


if __name__ == "__main__":
    unittest.main()

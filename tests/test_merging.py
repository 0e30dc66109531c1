"""Points 32 to 34: trimmed, merged and renamed protocols, and the classes of states."""

import random
import unittest

from mingle.checking import check
from mingle.compiling import compile_text
from mingle.errors import InvalidRulebook
from mingle.graphs import explore
from mingle.merging import classes, merged, renamed, trimmed
from mingle.protocols import Rulebook
from samples import counts_up_to, drawn_protocol, majority, names, pair

EMPTY = Rulebook([], [], [], [], [])


def alike_drawn(seed, many):
    """A protocol in whose meetings states of one class often do the same, so that there is something to merge."""
    draw = random.Random(seed)
    states = names(many)
    kinds = [draw.randrange(3) for _ in states]
    outputs = [kind % 2 for kind in kinds]
    moves = {(one, other): (draw.randrange(3), draw.randrange(3)) for one in range(3) for other in range(3)}
    rules = []
    for first, one in zip(states, kinds):
        for second, other in zip(states, kinds):
            if draw.random() < 0.97:
                wanted = moves[one, other]
                options = [[state for state, kind in zip(states, kinds) if kind == want] for want in wanted]
                if all(options):
                    rules.append((first, second, draw.choice(options[0]), draw.choice(options[1])))
    draw.shuffle(rules)
    inputs = [(name, draw.choice(states)) for name in ["x", "y"]]
    return Rulebook(states, inputs, [draw.choice(states)] * draw.randrange(2), rules, outputs)


def naive_classes(protocol):
    """The classes of point 33: pairs of states are told apart until nothing new comes."""
    many = range(len(protocol))
    apart = {(s, t) for s in many for t in many if protocol.outputs[s] != protocol.outputs[t]}
    while True:
        found = set(apart)
        for s in many:
            for t in many:
                for u in many:
                    for one, other in [((s, u), (t, u)), ((u, s), (u, t))]:
                        if any(both in apart for both in zip(protocol.meet(*one), protocol.meet(*other))):
                            found.add((s, t))
        if found == apart:
            break
        apart = found
    return [
        [t for t in many if (s, t) not in apart] for s in many if all((s, t) in apart for t in range(s))
    ]


def naive_merged(protocol):
    division = naive_classes(protocol)
    kinds = {state: kind for kind, members in enumerate(division) for state in members}
    states = [protocol.states[members[0]] for members in division]
    rules = []
    for first in range(len(division)):
        for second in range(len(division)):
            results = protocol.meet(division[first][0], division[second][0])
            third, fourth = [kinds[state] for state in results]
            if (third, fourth) != (first, second):
                rules.append(tuple([states[kind] for kind in (first, second, third, fourth)]))
    inputs = [(name, states[kinds[protocol.number(state)]]) for name, state in protocol.inputs]
    leaders = [states[kinds[protocol.number(state)]] for state in protocol.leaders]
    return Rulebook(states, inputs, leaders, rules, [protocol.outputs[members[0]] for members in division])


def naive_occurring(protocol):
    found = {state for _, state in protocol.inputs} | set(protocol.leaders)
    while True:
        numbers = [protocol.number(state) for state in found]
        more = {protocol.states[result] for s in numbers for t in numbers for result in protocol.meet(s, t)}
        if more <= found:
            return [state for state in protocol.states if state in found]
        found |= more


class TrimmedTest(unittest.TestCase):
    def test_nothing_to_trim(self):
        for protocol in [pair(), majority(), EMPTY, compile_text("x + -1 * y >= 1")]:
            self.assertIsInstance(trimmed(protocol), Rulebook)
            self.assertEqual(trimmed(protocol), protocol)

    def test_states_that_nothing_brings_about(self):
        rules = [("z", "a", "a", "a"), ("a", "a", "a", "b"), ("a", "z", "z", "b"), ("b", "a", "b", "a"),
                 ("z", "z", "w", "w")]
        protocol = Rulebook(["z", "a", "w", "b"], [("x", "a")], [], rules, [4, 1, 9, 2])
        expected = Rulebook(["a", "b"], [("x", "a")], [], [("a", "a", "a", "b"), ("b", "a", "b", "a")], [1, 2])
        self.assertEqual(trimmed(protocol), expected)

    def test_states_that_only_leaders_bring_about(self):
        rules = [("l", "a", "m", "b"), ("b", "c", "c", "c")]
        protocol = Rulebook(["a", "b", "c", "l", "m"], [("x", "a")], ["l"], rules, [0] * 5)
        expected = Rulebook(["a", "b", "l", "m"], [("x", "a")], ["l"], [("l", "a", "m", "b")], [0] * 4)
        self.assertEqual(trimmed(protocol), expected)
        without = Rulebook(protocol.states, [("x", "a")], [], rules, [0] * 5)
        self.assertEqual(trimmed(without), Rulebook(["a"], [("x", "a")], [], [], [0]))
        only = Rulebook(protocol.states, [], ["m", "l", "m"], rules, [0] * 5)
        self.assertEqual(trimmed(only), Rulebook(["l", "m"], [], ["m", "l", "m"], [], [0, 0]))

    def test_states_that_only_rules_bring_about(self):
        rules = [("c", "d", "d", "e"), ("a", "a", "a", "b"), ("b", "a", "c", "b"), ("c", "b", "c", "d")]
        protocol = Rulebook(list("fedcba"), [("x", "a")], [], rules, [0, 1, 2, 3, 4, 5])
        self.assertEqual(trimmed(protocol), Rulebook(list("edcba"), [("x", "a")], [], rules, [1, 2, 3, 4, 5]))

    def test_a_meeting_of_two_agents_in_the_same_state(self):
        # Two agents in "b" count as a meeting that can occur, even if there is never more than one.
        protocol = Rulebook(["b", "c"], [], ["b"], [("b", "b", "b", "c")], [0, 0])
        self.assertEqual(trimmed(protocol), protocol)

    def test_both_orders_and_both_results(self):
        for rule, kept in [(("a", "b", "c", "a"), True), (("a", "b", "a", "c"), True), (("b", "a", "c", "a"), True),
                           (("b", "a", "a", "c"), True), (("a", "c", "c", "c"), False), (("c", "a", "a", "b"), False)]:
            protocol = Rulebook(["a", "b", "c"], [("x", "a"), ("y", "b")], [], [rule], [0, 0, 0])
            self.assertEqual(trimmed(protocol).states, ("a", "b", "c") if kept else ("a", "b"), rule)
            self.assertEqual(trimmed(protocol).rules, (rule,) if kept else ())

    def test_rules_that_change_nothing_stay(self):
        rules = [("c", "c", "c", "c"), ("a", "a", "a", "a"), ("a", "c", "a", "c")]
        protocol = Rulebook(["a", "c"], [("x", "a")], [], rules, [0, 0])
        self.assertEqual(trimmed(protocol).rules, (("a", "a", "a", "a"),))

    def test_no_state_can_occur(self):
        protocol = Rulebook(["a", "b"], [], [], [("a", "b", "b", "b")], [1, 1])
        self.assertEqual(trimmed(protocol), EMPTY)

    def test_drawn_protocols(self):
        draw = random.Random(8)
        trimmings = 0
        for seed in range(80):
            protocol = drawn_protocol(seed, 6)
            rules = [rule for rule in protocol.rules if draw.random() < 0.4]
            inputs = [("y", "s2"), ("x", "s4")][:seed % 3]
            leaders = ["s5", "s1"][:seed % 2]
            protocol = Rulebook(protocol.states, inputs, leaders, rules, protocol.outputs)
            states = naive_occurring(protocol)
            expected = Rulebook(
                states, inputs, leaders, [rule for rule in rules if set(rule) <= set(states)],
                [protocol.outputs[protocol.number(state)] for state in states],
            )
            self.assertEqual(trimmed(protocol), expected, seed)
            self.assertEqual(trimmed(trimmed(protocol)), expected, seed)
            trimmings += 0 < len(states) < 6
            for counts in [[2] * len(inputs), [1] * len(inputs)]:
                self.same_graph(protocol, expected, counts)
        self.assertGreater(trimmings, 20)

    def same_graph(self, protocol, smaller, counts):
        """The graphs are the same but for the counts of the states that were left out, which are 0."""
        first, second = [explore(told, told.first_place(counts)) for told in [protocol, smaller]]
        self.assertEqual(len(first), len(second))
        kept = [protocol.number(state) for state in smaller.states]
        for number in range(len(first)):
            place = first.place(number)
            self.assertEqual(tuple([place[state] for state in kept]), second.place(number))
            self.assertEqual(sum(place), sum(second.place(number)))
            self.assertEqual(first.steps(number), second.steps(number))


class ClassesTest(unittest.TestCase):
    def test_document(self):
        rules = [("a", "a", "b", "c"), ("a", "b", "b", "c"), ("b", "a", "a", "c"), ("b", "b", "a", "c")]
        protocol = Rulebook(["a", "b", "c"], [("x", "a"), ("y", "b")], [], rules, [1, 1, 0])
        self.assertEqual(merged(protocol).states, ("a", "c"))
        self.assertEqual(classes(protocol), [[0, 1], [2]])
        expected = Rulebook(["a", "c"], [("x", "a"), ("y", "a")], [], [("a", "a", "a", "c")], [1, 0])
        self.assertEqual(merged(protocol), expected)

    def test_small_protocols(self):
        self.assertEqual(classes(EMPTY), [])
        self.assertEqual(classes(pair()), [[0], [1]])
        self.assertEqual(classes(Rulebook(["a"], [], [], [], [3])), [[0]])

    def test_no_rules(self):
        protocol = Rulebook(list("abcde"), [], [], [], [7, 0, 7, 1, 0])
        self.assertEqual(classes(protocol), [[0, 2], [1, 4], [3]])

    def test_outputs_alone_do_not_make_states_alike(self):
        protocol = Rulebook(list("abc"), [], [], [("a", "c", "a", "b")], [1, 1, 0])
        self.assertEqual(classes(protocol), [[0], [1], [2]])

    def test_told_apart_in_one_order_only(self):
        for rule in [("c", "a", "b", "a"), ("c", "a", "c", "c"), ("a", "c", "a", "a"), ("a", "c", "c", "c")]:
            protocol = Rulebook(list("abc"), [], [], [rule], [1, 1, 0])
            self.assertEqual(classes(protocol), [[0], [1], [2]], rule)

    def test_told_apart_by_a_meeting_with_itself(self):
        protocol = Rulebook(list("abc"), [], [], [("a", "a", "a", "c")], [1, 1, 0])
        self.assertEqual(classes(protocol), [[0], [1], [2]])

    def test_told_apart_after_several_steps(self):
        states = names(12)
        rules = [(state, "s0", following, "s0") for state, following in zip(states[1:], states[2:])]
        protocol = Rulebook(states, [], [], rules, [1] + [0] * 10 + [2])
        self.assertEqual(classes(protocol), [[number] for number in range(12)])
        # With one output for all of the row they are alike, however far they go.
        protocol = Rulebook(states, [], [], rules, [1] + [0] * 11)
        self.assertEqual(classes(protocol), [[0], list(range(1, 12))])

    def test_told_apart_after_several_steps_by_the_second_result(self):
        states = names(8)
        rules = [("s0", state, "s0", following) for state, following in zip(states[1:], states[2:])]
        protocol = Rulebook(states, [], [], rules, [1] + [0] * 6 + [2])
        self.assertEqual(classes(protocol), [[number] for number in range(8)])

    def test_a_rule_that_changes_nothing_tells_nothing_apart(self):
        protocol = Rulebook(list("abc"), [], [], [("a", "c", "a", "c"), ("b", "b", "b", "b")], [1, 1, 0])
        self.assertEqual(classes(protocol), [[0, 1], [2]])

    def test_a_rule_within_a_class_tells_nothing_apart(self):
        protocol = Rulebook(list("abc"), [], [], [("a", "c", "b", "c"), ("b", "a", "a", "a")], [1, 1, 0])
        self.assertEqual(classes(protocol), [[0, 1], [2]])

    def test_drawn_protocols(self):
        sizes = set()
        for seed in range(120):
            protocol = alike_drawn(seed, 3 + seed % 6)
            expected = naive_classes(protocol)
            self.assertEqual(classes(protocol), expected, seed)
            sizes.add((len(protocol), len(expected)))
        self.assertGreater(len([1 for many, left in sizes if 1 < left < many]), 8)

    def test_lists_are_new(self):
        protocol = Rulebook(list("ab"), [], [], [], [0, 0])
        classes(protocol)[0].append(7)
        classes(protocol).append([8])
        self.assertEqual(classes(protocol), [[0, 1]])


class MergedTest(unittest.TestCase):
    def test_nothing_to_merge(self):
        for protocol in [pair(), EMPTY, compile_text("x = 1 mod 2")]:
            self.assertIsInstance(merged(protocol), Rulebook)
            self.assertEqual(merged(protocol), protocol)
        rules = sorted(majority().rules)
        expected = Rulebook(majority().states, majority().inputs, [], rules, majority().outputs)
        self.assertEqual(merged(majority()), expected)

    def test_inputs_and_leaders_in_states_that_are_merged(self):
        rules = [("c", "d", "b", "b"), ("c", "b", "a", "b"), ("c", "a", "d", "d")]
        protocol = Rulebook(list("cdab"), [("x", "a"), ("y", "c"), ("z", "b")], ["b", "c", "d", "b"], rules, [0, 1, 1, 1])
        self.assertEqual(classes(protocol), [[0], [1, 2, 3]])
        expected = Rulebook(
            ["c", "d"], [("x", "d"), ("y", "c"), ("z", "d")], ["d", "c", "d", "d"], [("c", "d", "d", "d")], [0, 1]
        )
        self.assertEqual(merged(protocol), expected)

    def test_rules_in_ascending_order_without_those_that_change_nothing(self):
        rules = [("b", "a", "a", "b"), ("a", "b", "b", "b"), ("b", "b", "b", "b"), ("a", "a", "b", "a")]
        protocol = Rulebook(["b", "a"], [], [], rules, [0, 1])
        expected = [("b", "a", "a", "b"), ("a", "b", "b", "b"), ("a", "a", "b", "a")]
        self.assertEqual(merged(protocol), Rulebook(["b", "a"], [], [], expected, [0, 1]))

    def test_states_that_cannot_occur_stay(self):
        protocol = Rulebook(list("abc"), [("x", "a")], [], [], [0, 1, 1])
        self.assertEqual(merged(protocol), Rulebook(["a", "b"], [("x", "a")], [], [], [0, 1]))

    def test_drawn_protocols(self):
        for seed in range(120):
            protocol = alike_drawn(seed, 3 + seed % 6)
            expected = naive_merged(protocol)
            self.assertEqual(merged(protocol), expected, seed)
            self.assertEqual(merged(expected), expected, seed)

    def test_the_same_goals_are_kept(self):
        told = []
        for seed in range(40):
            protocol = alike_drawn(seed, 5)
            smaller = merged(protocol)
            for counts in counts_up_to(2, 3):
                for goal in [("answer", 0), ("answer", 1), ("total", 1), ("total", sum(counts))]:
                    both = [check(one, one.first_place(counts), goal)[0] for one in [protocol, smaller]]
                    self.assertEqual(both[0], both[1], (seed, counts, goal))
                    told.append(both[0])
        self.assertGreater(min(told.count("yes"), told.count("no")), 50)

    def test_a_compiled_protocol(self):
        protocol = compile_text("not ( x >= 2 and not x >= 3 )")
        smaller = merged(protocol)
        self.assertLess(len(smaller), len(protocol))
        for count in range(5):
            goal = ("answer", 0 if count == 2 else 1)
            self.assertEqual(check(smaller, smaller.first_place([count]), goal)[0], "yes")


class RenamedTest(unittest.TestCase):
    def test_other_names(self):
        protocol = Rulebook(["a", "b"], [("a", "b"), ("x", "a")], ["b", "a"], [("b", "a", "a", "a")], [4, 2])
        expected = Rulebook(["c", "z9"], [("a", "z9"), ("x", "c")], ["z9", "c"], [("z9", "c", "c", "c")], [4, 2])
        self.assertIsInstance(renamed(protocol, ["c", "z9"]), Rulebook)
        self.assertEqual(renamed(protocol, ["c", "z9"]), expected)
        self.assertEqual(renamed(protocol, ["a", "b"]), protocol)

    def test_the_old_names_in_another_order(self):
        protocol = renamed(majority(), ["b", "n", "y", "a"])
        rules = [("b", "n", "y", "y"), ("n", "b", "y", "y"), ("b", "y", "b", "a"), ("n", "a", "n", "y")]
        expected = Rulebook(["b", "n", "y", "a"], [("a", "b"), ("b", "n")], [], rules, [1, 0, 0, 1])
        self.assertEqual(protocol, expected)
        self.assertEqual(renamed(renamed(protocol, names(4)), ["a", "b", "n", "y"]), majority())

    def test_no_states(self):
        self.assertEqual(renamed(EMPTY, []), EMPTY)

    def test_meetings_stay_as_they_are(self):
        protocol = drawn_protocol(5, 5)
        other = renamed(protocol, ["e", "d", "c", "b", "a"])
        for first in range(5):
            for second in range(5):
                self.assertEqual(other.meet(first, second), protocol.meet(first, second))
        self.assertEqual(other.first_place([3]), protocol.first_place([3]))

    def test_wrong_names(self):
        for wrong in [["a", "a"], ["a", ""], ["A", "b"], ["a", "1b"], ["a", "abcdefghijklm"], ["a b", "c"],
                      ["a", "b_"], ["z", "z"]]:
            with self.assertRaises(InvalidRulebook):
                renamed(pair(), wrong)
            # Also if no rule, input or leader is about the states.
            with self.assertRaises(InvalidRulebook):
                renamed(Rulebook(["a", "b"], [], [], [], [0, 0]), wrong)

    def test_the_list_stays_as_it_is(self):
        told = ["c", "d"]
        protocol = renamed(pair(), told)
        told[0] = "e"
        self.assertEqual([protocol.states, told], [("c", "d"), ["e", "d"]])


class AllTogetherTest(unittest.TestCase):
    def test_arguments_stay_as_they_are(self):
        for seed in range(10):
            protocol = alike_drawn(seed, 6)
            for function in [trimmed, merged, classes]:
                function(protocol)
            renamed(protocol, names(7)[1:])
            self.assertEqual(protocol, alike_drawn(seed, 6))


if __name__ == "__main__":
    unittest.main()

"""Points 3 to 5: names, protocols and first places."""

import unittest

from mingle.errors import InvalidRulebook, UnknownState, WrongCounts
from mingle.protocols import Rulebook, is_name
from samples import majority, names, pair, plain


def parts(**changes):
    """The parts of a valid protocol, some of them changed."""
    valid = {
        "states": ["a", "b"],
        "inputs": [("x", "a"), ("y", "b")],
        "leaders": ["b"],
        "rules": [("a", "b", "b", "b"), ("b", "a", "a", "a")],
        "outputs": [0, 9],
    }
    return {**valid, **changes}


class NameTest(unittest.TestCase):
    def test_names(self):
        for name in ["a", "z", "a0", "z9", "q399", "abcdefghijkl", "a12345678901", "and", "state", "aa"]:
            self.assertIs(is_name(name), True, name)

    def test_lengths(self):
        lengths = [length for length in range(16) if is_name("n" * length)]
        self.assertEqual(lengths, list(range(1, 13)))

    def test_first_character(self):
        good = [chr(code) for code in range(128) if is_name(chr(code) + "a")]
        self.assertEqual("".join(good), "abcdefghijklmnopqrstuvwxyz")

    def test_other_characters(self):
        good = [chr(code) for code in range(128) if is_name("a" + chr(code))]
        self.assertEqual("".join(good), "0123456789abcdefghijklmnopqrstuvwxyz")

    def test_other_strings(self):
        for name in ["", "1", "1a", "A", "aB", "a b", " a", "a ", "a\n", "a_b", "a-", "-", "abcdefghijklm", "a.b"]:
            self.assertIs(is_name(name), False, name)


class RulebookTest(unittest.TestCase):
    def refused(self, **changes):
        with self.assertRaises(InvalidRulebook):
            Rulebook(**parts(**changes))

    def accepted(self, **changes):
        return Rulebook(**parts(**changes))

    def test_valid(self):
        protocol = self.accepted()
        self.assertEqual(protocol.states, ("a", "b"))
        self.assertEqual(protocol.inputs, (("x", "a"), ("y", "b")))
        self.assertEqual(protocol.leaders, ("b",))
        self.assertEqual(protocol.rules, (("a", "b", "b", "b"), ("b", "a", "a", "a")))
        self.assertEqual(protocol.outputs, (0, 9))

    def test_empty(self):
        protocol = Rulebook([], [], [], [], [])
        self.assertEqual(len(protocol), 0)
        self.assertEqual(
            [protocol.states, protocol.inputs, protocol.leaders, protocol.rules, protocol.outputs], [()] * 5
        )
        self.assertEqual(protocol.first_place([]), ())

    def test_order_is_kept(self):
        protocol = Rulebook(
            ["z", "a", "m"],
            [("y", "m"), ("x", "z")],
            ["m", "a", "m"],
            [("z", "z", "a", "a"), ("a", "z", "a", "a"), ("a", "a", "z", "m")],
            [3, 1, 2],
        )
        self.assertEqual(protocol.states, ("z", "a", "m"))
        self.assertEqual(protocol.inputs, (("y", "m"), ("x", "z")))
        self.assertEqual(protocol.leaders, ("m", "a", "m"))
        self.assertEqual(protocol.rules, (("z", "z", "a", "a"), ("a", "z", "a", "a"), ("a", "a", "z", "m")))
        self.assertEqual(protocol.outputs, (3, 1, 2))

    def test_states(self):
        self.refused(states=["a", "b", "a"], outputs=[0, 0, 0])
        for name in ["", "1", "B", "b ", "bbbbbbbbbbbbb"]:
            self.refused(states=["a", "b", name], outputs=[0, 0, 0])
        self.accepted(states=["a", "b", "bbbbbbbbbbbb"], outputs=[0, 0, 0])

    def test_number_of_states(self):
        self.assertEqual(len(Rulebook(names(400), [], [], [], [0] * 400)), 400)
        with self.assertRaises(InvalidRulebook):
            Rulebook(names(401), [], [], [], [0] * 401)

    def test_inputs(self):
        self.refused(inputs=[("x", "a"), ("x", "b")])
        self.refused(inputs=[("x", "a"), ("x", "a")])
        self.refused(inputs=[("x", "c")])
        self.refused(inputs=[("x", "")])
        for name in ["", "1", "X", "x y", "xxxxxxxxxxxxx"]:
            self.refused(inputs=[(name, "a")])
        self.refused(inputs=[("x",)])
        self.refused(inputs=[("x", "a", "b")])
        self.accepted(inputs=[])
        self.accepted(inputs=[("xxxxxxxxxxxx", "a")])
        self.accepted(inputs=[("x", "a"), ("y", "a")])
        self.accepted(inputs=[("b", "a"), ("a", "b")])

    def test_number_of_inputs(self):
        self.accepted(inputs=[(name, "a") for name in names(8)])
        self.refused(inputs=[(name, "a") for name in names(9)])

    def test_leaders(self):
        self.refused(leaders=["c"])
        self.refused(leaders=["a", "x"])
        self.accepted(leaders=[])
        self.accepted(leaders=["a"] * 10)
        self.accepted(leaders=["a", "b"] * 5)
        self.refused(leaders=["a"] * 11)
        self.refused(leaders=["a"] * 10 + ["b"])

    def test_rules(self):
        for index in range(4):
            rule = ["a", "b", "a", "b"]
            rule[index] = "c"
            self.refused(rules=[tuple(rule)])
        self.accepted(rules=[])
        self.accepted(rules=[("a", "b", "a", "b")])
        self.refused(rules=[("a", "b", "b")])
        self.refused(rules=[("a", "b", "b", "b", "b")])

    def test_two_rules_for_a_pair(self):
        self.refused(rules=[("a", "b", "b", "b"), ("a", "b", "a", "a")])
        self.refused(rules=[("a", "b", "b", "b"), ("b", "b", "b", "b"), ("a", "b", "b", "b")])
        self.refused(rules=[("a", "b", "a", "b"), ("a", "b", "b", "a")])
        self.accepted(rules=[("a", "b", "b", "b"), ("b", "a", "b", "b")])

    def test_outputs(self):
        for output in range(10):
            self.assertEqual(self.accepted(outputs=[1, output]).outputs, (1, output))
        for output in [-1, 10, 11, -10**29, 10**29]:
            self.refused(outputs=[0, output])
            self.refused(outputs=[output, 0])

    def test_number_of_outputs(self):
        self.refused(outputs=[])
        self.refused(outputs=[0])
        self.refused(outputs=[0, 0, 0])
        with self.assertRaises(InvalidRulebook):
            Rulebook([], [], [], [], [0])

    def test_every_pair_may_have_a_rule(self):
        states = names(20)
        rules = [(first, second, second, "s0") for first in states for second in states]
        self.assertEqual(len(plain(states, rules).rules), 400)

    def test_arguments_are_copied_and_not_changed(self):
        given = parts()
        protocol = Rulebook(**given)
        self.assertEqual(given, parts())
        for field in given.values():
            field.append(field[0])
            field[0] = "junk"
        self.assertEqual(protocol, Rulebook(**parts()))
        self.assertEqual(protocol.number("a"), 0)
        self.assertEqual(protocol.meet(0, 1), (1, 1))
        self.assertEqual(protocol.first_place([1, 1]), (1, 2))

    def test_fields_are_tuples_throughout(self):
        protocol = self.accepted()
        for field in [protocol.states, protocol.inputs, protocol.leaders, protocol.rules, protocol.outputs]:
            self.assertIs(type(field), tuple)
        for row in [*protocol.inputs, *protocol.rules]:
            self.assertIs(type(row), tuple)

    def test_methods_stand_in_the_class(self):
        for name in ["__init__", "__len__", "__eq__", "number", "meet", "first_place"]:
            self.assertIn(name, vars(Rulebook))

    def test_len(self):
        self.assertEqual([len(pair()), len(majority())], [2, 4])

    def test_number(self):
        protocol = majority()
        self.assertEqual([protocol.number(name) for name in ["a", "b", "n", "y"]], [0, 1, 2, 3])
        for name in ["c", "", "x", "A", "a "]:
            with self.assertRaises(UnknownState) as caught:
                protocol.number(name)
            self.assertEqual(caught.exception.name, name)

    def test_number_of_an_input_that_is_no_state(self):
        with self.assertRaises(UnknownState):
            self.accepted().number("x")

    def test_meet(self):
        protocol = majority()
        self.assertEqual(protocol.meet(0, 1), (2, 2))
        self.assertEqual(protocol.meet(1, 0), (2, 2))
        self.assertEqual(protocol.meet(0, 2), (0, 3))
        self.assertEqual(protocol.meet(1, 3), (1, 2))

    def test_meet_without_a_rule(self):
        protocol = majority()
        self.assertEqual(protocol.meet(2, 0), (2, 0))
        self.assertEqual(protocol.meet(0, 0), (0, 0))
        self.assertEqual(protocol.meet(3, 1), (3, 1))

    def test_meet_by_a_rule_that_changes_nothing_or_exchanges(self):
        protocol = plain(["a", "b"], [("a", "b", "a", "b"), ("b", "a", "a", "b")])
        self.assertEqual([protocol.meet(0, 1), protocol.meet(1, 0)], [(0, 1), (0, 1)])


class EqualityTest(unittest.TestCase):
    def test_equal(self):
        self.assertTrue(Rulebook(**parts()) == Rulebook(**parts()))
        self.assertFalse(Rulebook(**parts()) != Rulebook(**parts()))

    def test_one_field_differs(self):
        others = [
            parts(states=["a", "b", "c"], outputs=[0, 9, 0]),
            parts(inputs=[("x", "a"), ("z", "b")]),
            parts(inputs=[("x", "a"), ("y", "a")]),
            parts(inputs=[("y", "b"), ("x", "a")]),
            parts(leaders=["a"]),
            parts(leaders=["b", "b"]),
            parts(rules=[("b", "a", "a", "a"), ("a", "b", "b", "b")]),
            parts(rules=[("a", "b", "b", "b"), ("b", "a", "a", "b")]),
            parts(rules=[]),
            parts(outputs=[0, 8]),
        ]
        for other in others:
            self.assertFalse(Rulebook(**parts()) == Rulebook(**other), other)
            self.assertTrue(Rulebook(**parts()) != Rulebook(**other), other)

    def test_only_the_states_differ(self):
        first = Rulebook(["a", "b"], [], [], [], [1, 1])
        self.assertFalse(first == Rulebook(["b", "a"], [], [], [], [1, 1]))

    def test_rules_that_change_nothing_count(self):
        self.assertFalse(plain(["a"]) == plain(["a"], [("a", "a", "a", "a")]))

    def test_something_else(self):
        self.assertFalse(pair() == 1)
        self.assertFalse(pair() == None)  # noqa: E711


class FirstPlaceTest(unittest.TestCase):
    def test_document(self):
        self.assertEqual(majority().first_place([2, 1]), (2, 1, 0, 0))

    def test_order_of_inputs(self):
        protocol = Rulebook(["a", "b", "c"], [("x", "c"), ("y", "a")], [], [], [0, 0, 0])
        self.assertEqual(protocol.first_place([5, 7]), (7, 0, 5))

    def test_inputs_with_the_same_state_are_added(self):
        protocol = Rulebook(["a", "b"], [("x", "b"), ("y", "a"), ("z", "b")], [], [], [0, 0])
        self.assertEqual(protocol.first_place([1, 10, 100]), (10, 101))

    def test_leaders(self):
        protocol = Rulebook(["a", "b", "c"], [("x", "a")], ["c", "a", "c"], [], [0, 0, 0])
        self.assertEqual(protocol.first_place([0]), (1, 0, 2))
        self.assertEqual(protocol.first_place([4]), (5, 0, 2))

    def test_no_inputs(self):
        self.assertEqual(Rulebook(["a"], [], ["a"], [], [0]).first_place([]), (1,))

    def test_great_counts(self):
        self.assertEqual(pair().first_place([10**30 - 1]), (10**30 - 1, 0))

    def test_wrong_counts(self):
        protocol = majority()
        for counts in [[], [1], [1, 2, 3], [-1, 0], [0, -1], [5, -1], [0, 0, 0, 0]]:
            with self.assertRaises(WrongCounts):
                protocol.first_place(counts)
        with self.assertRaises(WrongCounts):
            Rulebook(["a"], [], [], [], [0]).first_place([0])

    def test_counts_with_the_same_state_do_not_make_up_for_a_negative_one(self):
        protocol = Rulebook(["a"], [("x", "a"), ("y", "a")], ["a"], [], [0])
        with self.assertRaises(WrongCounts):
            protocol.first_place([3, -1])

    def test_counts_are_not_changed(self):
        counts = [2, 1]
        majority().first_place(counts)
        self.assertEqual(counts, [2, 1])


if __name__ == "__main__":
    unittest.main()

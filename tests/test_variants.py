"""Points 49, 50 and 51: doubling protocols, inputs that are fixed or replaced, and what kinds of protocols there are."""

import copy
import random
import unittest
from itertools import product

from mingle.bottoms import bottoms
from mingle.checking import first_failure
from mingle.errors import InvalidRulebook, UnknownName, WrongCounts
from mingle.graphs import explore
from mingle.places import successors
from mingle.protocols import Rulebook
from mingle.variants import doubling, fixed, is_one_way, is_silent, is_symmetric, with_inputs
from samples import counts_up_to, drawn_protocol, least, majority, pair, plain

EMPTY = Rulebook([], [], [], [], [])


def with_leaders(many, state="a"):
    """A protocol with two inputs, two states and so many leaders."""
    return Rulebook(["a", "b"], [("x", "a"), ("y", "b")], [state] * many, [("a", "b", "b", "b")], [0, 1])


class DoublingTest(unittest.TestCase):
    def test_document(self):
        rules = (('p0', 'p0', 'y', 'y'), ('p0', 'y', 'y', 'y'), ('z', 'y', 'y', 'y'), ('y', 'p0', 'y', 'y'),
                 ('y', 'z', 'y', 'y'))
        self.assertEqual(doubling("x", 1).rules, rules)

    def test_exponent_3(self):
        rules = ["p0 p0 p1 z", "p0 y y y", "p1 p1 p2 z", "p1 y y y", "p2 p2 y y", "p2 y y y", "z y y y", "y p0 y y",
                 "y p1 y y", "y p2 y y", "y z y y"]
        rules = [tuple(rule.split(" ")) for rule in rules]
        expected = Rulebook(["p0", "p1", "p2", "z", "y"], [("abc", "p0")], [], rules, [0, 0, 0, 0, 1])
        self.assertEqual(doubling("abc", 3), expected)

    def test_parts_in_their_order(self):
        for exponent in range(1, 21):
            protocol = doubling("x", exponent)
            states = [f"p{number}" for number in range(exponent)] + ["z", "y"]
            self.assertEqual(len(protocol), exponent + 2)
            self.assertEqual(protocol.states, tuple(states))
            self.assertEqual(protocol.inputs, (("x", "p0"),))
            self.assertEqual(protocol.leaders, ())
            self.assertEqual(protocol.outputs, tuple([0] * (exponent + 1) + [1]))
            pairs = [(protocol.number(rule[0]), protocol.number(rule[1])) for rule in protocol.rules]
            self.assertEqual(pairs, sorted(pairs))
            self.assertEqual(len(pairs), 3 * exponent + 2)
            for number in range(exponent):
                following = (number + 1, exponent) if number + 1 < exponent else (exponent + 1, exponent + 1)
                self.assertEqual(protocol.meet(number, number), following)

    def test_exponents_out_of_range(self):
        for exponent in [0, 21, 22, -1, 10 ** 29, -10 ** 29]:
            with self.assertRaises(InvalidRulebook):
                doubling("x", exponent)

    def test_names(self):
        for name in ["a", "p0", "y", "and", "abcdefghijkl", "x1"]:
            self.assertEqual(doubling(name, 2).inputs, ((name, "p0"),))
        for name in ["", "X", "1x", "abcdefghijklm", "a b", "x_y", "-"]:
            with self.assertRaises(InvalidRulebook):
                doubling(name, 2)

    def test_small_ones_decide(self):
        for exponent in range(1, 4):
            bound = 2 ** exponent
            self.assertIsNone(first_failure(doubling("x", exponent), least(bound, x=1), bound + 3))
            self.assertEqual(first_failure(doubling("x", exponent), least(bound + 1, x=1), bound + 3), [bound])
            self.assertEqual(first_failure(doubling("x", exponent), least(bound - 1, x=1), bound + 3), [bound - 1])

    def test_followed_through(self):
        protocol = doubling("x", 3)
        for count in range(12):
            graph = explore(protocol, protocol.first_place([count]))
            for region in bottoms(graph):
                places = [graph.place(number) for number in region]
                if count >= 8:
                    self.assertEqual(places, [(0, 0, 0, 0, count)])
                else:
                    # The agents that are left carry the units as binary digits.
                    units = [(count >> digit) & 1 for digit in range(3)]
                    self.assertEqual(places, [(*units, count - sum(units), 0)])

    def test_units_are_never_lost(self):
        protocol = doubling("x", 4)
        graph = explore(protocol, protocol.first_place([11]))
        self.assertGreater(len(graph), 10)
        for number in range(len(graph)):
            place = graph.place(number)
            self.assertEqual(sum(place[state] * 2 ** state for state in range(4)), 11)
            self.assertEqual(place[5], 0)

    def test_great_bound(self):
        protocol = doubling("x", 5)
        for count, expected in [(31, 0), (32, 1)]:
            graph = explore(protocol, protocol.first_place([count]))
            for region in bottoms(graph):
                self.assertEqual([graph.place(number)[-1] for number in region], [count if expected else 0])


class FixedTest(unittest.TestCase):
    def test_one_input(self):
        protocol = with_leaders(0)
        found = fixed(protocol, "x", 2)
        self.assertEqual(found, Rulebook(["a", "b"], [("y", "b")], ["a", "a"], [("a", "b", "b", "b")], [0, 1]))
        found = fixed(protocol, "y", 1)
        self.assertEqual(found, Rulebook(["a", "b"], [("x", "a")], ["b"], [("a", "b", "b", "b")], [0, 1]))

    def test_count_0(self):
        found = fixed(with_leaders(2), "x", 0)
        self.assertEqual([found.inputs, found.leaders], [(("y", "b"),), ("a", "a")])

    def test_new_leaders_stand_behind_the_others(self):
        protocol = Rulebook(list("abc"), [("x", "b"), ("y", "a"), ("z", "c")], ["c", "a", "c"], [], [0, 1, 2])
        found = fixed(protocol, "x", 2)
        self.assertEqual(found.leaders, ("c", "a", "c", "b", "b"))
        self.assertEqual(found.inputs, (("y", "a"), ("z", "c")))
        found = fixed(fixed(found, "z", 1), "y", 3)
        self.assertEqual(found.leaders, ("c", "a", "c", "b", "b", "c", "a", "a", "a"))
        self.assertEqual(found.inputs, ())

    def test_two_inputs_in_one_state(self):
        protocol = Rulebook(["a", "b"], [("x", "a"), ("y", "a")], ["b"], [], [0, 1])
        self.assertEqual(fixed(protocol, "x", 2).inputs, (("y", "a"),))
        self.assertEqual(fixed(protocol, "y", 2).inputs, (("x", "a"),))
        self.assertEqual(fixed(protocol, "y", 2).leaders, ("b", "a", "a"))

    def test_leaders_at_their_limit(self):
        for before, count in [(0, 10), (3, 7), (10, 0), (9, 1)]:
            self.assertEqual(fixed(with_leaders(before), "y", count).leaders, tuple(["a"] * before + ["b"] * count))
        for before, count in [(0, 11), (3, 8), (10, 1), (9, 2), (0, 10 ** 29), (10, 10 ** 29)]:
            with self.assertRaises(InvalidRulebook):
                fixed(with_leaders(before), "y", count)

    def test_names_that_do_not_occur(self):
        for name in ["z", "a", "b", "", "X", "xx"]:
            for count in [0, 2, -1, 11]:
                with self.assertRaises(UnknownName) as caught:
                    fixed(with_leaders(1), name, count)
                self.assertEqual(caught.exception.name, name)
        with self.assertRaises(UnknownName):
            fixed(EMPTY, "x", 0)

    def test_negative_counts(self):
        for count in [-1, -10, -10 ** 29]:
            for before in [0, 10]:
                with self.assertRaises(WrongCounts):
                    fixed(with_leaders(before), "x", count)

    def test_first_places(self):
        protocol = Rulebook(list("abc"), [("x", "b"), ("y", "a"), ("z", "b")], ["c"], [], [0, 1, 2])
        for first, second, third in product(range(4), repeat=3):
            place = protocol.first_place([first, second, third])
            self.assertEqual(fixed(protocol, "x", first).first_place([second, third]), place)
            self.assertEqual(fixed(protocol, "y", second).first_place([first, third]), place)
            self.assertEqual(fixed(protocol, "z", third).first_place([first, second]), place)

    def test_what_happens_in_meetings(self):
        protocol = drawn_protocol(1, 4)
        before = copy.deepcopy(protocol)
        found = fixed(protocol, "x", 3)
        for first, second in product(range(4), repeat=2):
            self.assertEqual(found.meet(first, second), protocol.meet(first, second))
        self.assertEqual([found.states, found.rules, found.outputs], [before.states, before.rules, before.outputs])
        self.assertEqual(protocol, before)


class InputsTest(unittest.TestCase):
    def test_other_inputs(self):
        protocol = majority()
        inputs = [("x", "y"), ("n", "n"), ("z", "y")]
        found = with_inputs(protocol, inputs)
        self.assertEqual(found, Rulebook(protocol.states, inputs, [], protocol.rules, protocol.outputs))
        self.assertEqual(found.inputs, tuple(inputs))
        self.assertEqual(inputs, [("x", "y"), ("n", "n"), ("z", "y")])
        self.assertEqual(protocol, majority())

    def test_no_inputs(self):
        self.assertEqual(with_inputs(majority(), []).inputs, ())
        self.assertEqual(with_inputs(with_leaders(3), []).leaders, ("a",) * 3)
        self.assertEqual(with_inputs(EMPTY, []), EMPTY)

    def test_the_list_is_copied(self):
        inputs = [("x", "a")]
        found = with_inputs(majority(), inputs)
        inputs.append(("y", "b"))
        self.assertEqual(found.inputs, (("x", "a"),))

    def test_eight_and_nine(self):
        inputs = [(f"x{number}", "a") for number in range(9)]
        self.assertEqual(with_inputs(majority(), inputs[:8]).inputs, tuple(inputs[:8]))
        with self.assertRaises(InvalidRulebook):
            with_inputs(majority(), inputs)

    def test_wrong_inputs(self):
        for inputs in [[("x", "a"), ("x", "b")], [("x", "a"), ("y", "b"), ("x", "a")], [("x", "c")], [("x", "")],
                       [("x", "a"), ("y", "z")], [("X", "a")], [("", "a")], [("x", "a"), ("abcdefghijklm", "b")]]:
            with self.assertRaises(InvalidRulebook):
                with_inputs(majority(), inputs)
        with self.assertRaises(InvalidRulebook):
            with_inputs(EMPTY, [("x", "a")])


class KindTest(unittest.TestCase):
    def kinds(self, protocol, one_way, symmetric):
        self.assertIs(is_one_way(protocol), one_way)
        self.assertIs(is_symmetric(protocol), symmetric)
        pairs = list(product(range(len(protocol)), repeat=2))
        self.assertEqual(one_way, all(protocol.meet(*pair)[0] == pair[0] for pair in pairs))
        self.assertEqual(symmetric, all(protocol.meet(*pair) == protocol.meet(*pair[::-1])[::-1] for pair in pairs))

    def test_no_rules(self):
        self.kinds(EMPTY, True, True)
        self.kinds(plain("a"), True, True)
        self.kinds(plain("abc"), True, True)

    def test_samples(self):
        self.kinds(pair(), True, False)
        self.kinds(majority(), False, False)
        self.kinds(doubling("x", 1), False, True)
        self.kinds(doubling("x", 2), False, False)

    def test_rules_for_one_order(self):
        self.kinds(plain("abc", ["abac"]), True, False)
        self.kinds(plain("abc", ["abcb"]), False, False)
        self.kinds(plain("abc", ["abab"]), True, True)
        self.kinds(plain("abc", ["baba", "abab"]), True, True)

    def test_rules_for_both_orders(self):
        self.kinds(plain("abc", ["abac", "baca"]), False, True)
        self.kinds(plain("abc", ["abac", "baac"]), False, False)
        self.kinds(plain("abc", ["abac", "babc"]), True, False)
        self.kinds(plain("abc", ["abcc", "bacc"]), False, True)
        self.kinds(plain("abc", ["abba", "baab"]), False, True)
        self.kinds(plain("abc", ["abba"]), False, False)

    def test_rules_for_two_equal_states(self):
        self.kinds(plain("ab", ["aabb"]), False, True)
        self.kinds(plain("ab", ["aaab"]), True, False)
        self.kinds(plain("ab", ["aaba"]), False, False)
        self.kinds(plain("ab", ["aaaa"]), True, True)

    def test_one_rule_of_several(self):
        for at in range(3):
            rules = ["abac", "baca", "bbcc"]
            rules.insert(at, "ccac")
            self.kinds(plain("abc", rules), False, False)
            rules = ["abac", "bcbb", "cccb"]
            self.kinds(plain("abc", rules), True, False)
            rules.insert(at, "acba")
            self.kinds(plain("abc", rules), False, False)
            rules = ["abac", "baca", "bbcc"]
            rules.insert(at, "cabb")
            self.kinds(plain("abc", rules), False, False)

    def test_drawn_protocols(self):
        told = []
        for seed in range(200):
            draw = random.Random(seed)
            rules = {}
            for _ in range(draw.randint(1, 3)):
                first, second, third, fourth = draw.choices("abc", k=4)
                if draw.random() < 0.5:
                    third = first
                rules[first, second] = first + second + third + fourth
                if draw.random() < 0.8:
                    rules[second, first] = second + first + fourth + third
            protocol = plain("abc", rules.values())
            self.kinds(protocol, is_one_way(protocol), is_symmetric(protocol))
            told.append((is_one_way(protocol), is_symmetric(protocol)))
        self.assertEqual(len(set(told)), 4)


class SilentTest(unittest.TestCase):
    def test_pair(self):
        for place, expected in [((0, 0), True), ((1, 0), True), ((0, 1), True), ((1, 5), True), ((2, 0), False),
                                ((2, 3), False), ((0, 4), True)]:
            self.assertIs(is_silent(pair(), place), expected, place)

    def test_meetings_that_exchange_two_states(self):
        protocol = plain("abc", ["abba", "baab"])
        self.assertIs(is_silent(protocol, (1, 1, 0)), True)
        self.assertIs(is_silent(protocol, (3, 2, 4)), True)
        protocol = plain("abc", ["abba", "bacb"])
        self.assertIs(is_silent(protocol, (1, 1, 0)), False)
        self.assertIs(is_silent(protocol, (2, 0, 2)), True)

    def test_rules_that_change_nothing(self):
        self.assertIs(is_silent(plain("ab", ["aaaa", "abab"]), (3, 3)), True)

    def test_no_states(self):
        self.assertIs(is_silent(EMPTY, ()), True)

    def test_great_counts(self):
        self.assertIs(is_silent(pair(), (1, 10 ** 29)), True)
        self.assertIs(is_silent(pair(), (10 ** 29, 0)), False)

    def test_small_places(self):
        for seed in range(10):
            protocol = drawn_protocol(seed, 3)
            for counts in counts_up_to(3, 3):
                self.assertIs(is_silent(protocol, tuple(counts)), successors(protocol, tuple(counts)) == [])

    def test_places_that_do_not_fit(self):
        for place in [(), (1,), (1, 0, 0), (-1, 0), (2, -1)]:
            with self.assertRaises(WrongCounts):
                is_silent(pair(), place)
        with self.assertRaises(WrongCounts):
            is_silent(EMPTY, (0,))


if __name__ == "__main__":
    unittest.main()

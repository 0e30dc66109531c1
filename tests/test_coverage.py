"""Points 46, 47 and 48: patterns, origins, and from where patterns can come to be covered."""

import copy
import random
import unittest
from itertools import product

from mingle.compiling import compile_text
from mingle.coverage import can_cover, covers, origins, smallest_beginning
from mingle.errors import WrongCounts
from mingle.graphs import explore
from mingle.protocols import Rulebook
from mingle.variants import doubling
from samples import counts_up_to, drawn_protocol, drawn_rules, majority, pair, plain

EMPTY = Rulebook([], [], [], [], [])
WRONG_PATTERNS = [(), (1,), (1, 0, 0), (-1, 0), (0, -1), (3, -1)]


def is_below(low, high):
    return all(less <= more for less, more in zip(low, high))


def lowest(patterns):
    """The patterns of a set that no other one of it is below."""
    return {one for one in patterns if not any(other != one and is_below(other, one) for other in patterns)}


def naive_origins(protocol, patterns):
    """The origins as point 47 tells, by adding patterns for all rules until nothing new comes."""
    found = lowest(set(patterns))
    while True:
        further = set(found)
        for pattern in found:
            for rule in protocol.rules:
                first, second, third, fourth = [protocol.states.index(name) for name in rule]
                counts = list(pattern)
                counts[third] = max(0, counts[third] - 1)
                counts[fourth] = max(0, counts[fourth] - 1)
                counts[first] += 1
                counts[second] += 1
                further.add(tuple(counts))
        further = lowest(further)
        if further == found:
            return sorted(found)
        found = further


def drawn_patterns(draw, many, greatest):
    return [tuple([draw.randint(0, greatest) for _ in range(many)]) for _ in range(draw.randint(1, 3))]


def comes_to_cover(protocol, place, patterns):
    """True if a place of the graph covers one of the patterns."""
    graph = explore(protocol, place)
    places = [graph.place(number) for number in range(len(graph))]
    return any(is_below(pattern, here) for here in places for pattern in patterns)


class CoversTest(unittest.TestCase):
    def test_counts(self):
        self.assertIs(covers((2, 1), (2, 1)), True)
        self.assertIs(covers((2, 1), (0, 0)), True)
        self.assertIs(covers((2, 1), (2, 0)), True)
        self.assertIs(covers((2, 1), (3, 0)), False)
        self.assertIs(covers((2, 1), (0, 2)), False)
        self.assertIs(covers((2, 1), (1, 2)), False)
        self.assertIs(covers((5, 1, 5), (5, 2, 5)), False)
        self.assertIs(covers((5, 2, 5), (5, 2, 5)), True)

    def test_no_states(self):
        self.assertIs(covers((), ()), True)

    def test_no_agents(self):
        self.assertIs(covers((0, 0), (0, 0)), True)
        self.assertIs(covers((0, 0), (0, 1)), False)


class OriginsTest(unittest.TestCase):
    def found(self, protocol, patterns, expected):
        self.assertEqual(origins(protocol, patterns), expected)
        self.assertEqual(naive_origins(protocol, patterns), expected)

    def test_document(self):
        self.found(pair(), [(0, 2)], [(0, 2), (2, 1), (3, 0)])

    def test_no_pattern(self):
        self.found(pair(), [], [])
        self.found(EMPTY, [], [])

    def test_the_pattern_of_no_agent(self):
        self.found(pair(), [(0, 0)], [(0, 0)])
        self.found(pair(), [(3, 0), (0, 0), (0, 1)], [(0, 0)])
        self.found(EMPTY, [()], [()])
        self.found(EMPTY, [(), ()], [()])

    def test_without_rules(self):
        self.found(plain("ab"), [(2, 1)], [(2, 1)])
        self.found(plain("ab"), [(2, 1), (1, 2)], [(1, 2), (2, 1)])
        self.found(plain("ab"), [(2, 1), (0, 5), (3, 0)], [(0, 5), (2, 1), (3, 0)])

    def test_patterns_above_others_are_left_out(self):
        self.found(plain("ab"), [(2, 1), (1, 1)], [(1, 1)])
        self.found(plain("ab"), [(1, 1), (2, 1)], [(1, 1)])
        self.found(plain("ab"), [(1, 1), (1, 1), (1, 1)], [(1, 1)])
        self.found(plain("ab"), [(0, 3), (3, 0), (1, 3), (3, 3), (2, 0)], [(0, 3), (2, 0)])

    def test_patterns_with_as_many_agents_are_not_below_each_other(self):
        self.found(plain("abc"), [(1, 1, 0), (1, 0, 1), (0, 1, 1), (2, 0, 0)], [(0, 1, 1), (1, 0, 1), (1, 1, 0), (2, 0, 0)])

    def test_rules_without_a_result_in_the_pattern(self):
        self.found(plain("abc", [("a", "b", "b", "b")]), [(0, 0, 1)], [(0, 0, 1)])

    def test_one_result_in_the_pattern(self):
        protocol = plain("abcd", [("a", "b", "c", "d")])
        self.found(protocol, [(0, 0, 1, 0)], [(0, 0, 1, 0), (1, 1, 0, 0)])
        self.found(protocol, [(0, 0, 0, 1)], [(0, 0, 0, 1), (1, 1, 0, 0)])

    def test_both_results_in_the_pattern(self):
        protocol = plain("abcd", [("a", "b", "c", "d")])
        expected = [(0, 0, 1, 1), (1, 1, 0, 0)]
        self.found(protocol, [(0, 0, 1, 1)], expected)
        self.found(protocol, [(0, 0, 2, 1)], [(0, 0, 2, 1), (1, 1, 1, 0), (2, 2, 0, 0)])

    def test_results_that_are_the_same_state(self):
        protocol = plain("abc", [("a", "b", "c", "c")])
        self.found(protocol, [(0, 0, 1)], [(0, 0, 1), (1, 1, 0)])
        self.found(protocol, [(0, 0, 2)], [(0, 0, 2), (1, 1, 0)])
        self.found(protocol, [(0, 0, 3)], [(0, 0, 3), (1, 1, 1), (2, 2, 0)])
        self.found(protocol, [(0, 0, 4)], [(0, 0, 4), (1, 1, 2), (2, 2, 0)])

    def test_first_states_that_are_the_same(self):
        self.found(plain("abc", [("a", "a", "b", "c")]), [(0, 1, 0)], [(0, 1, 0), (2, 0, 0)])
        self.found(plain("ab", [("a", "a", "b", "b")]), [(0, 2)], [(0, 2), (2, 0)])
        self.found(plain("ab", [("a", "a", "b", "b")]), [(1, 1)], [(1, 1), (3, 0)])

    def test_rules_that_change_nothing_or_exchange(self):
        self.found(plain("ab", [("a", "b", "b", "a"), ("b", "b", "b", "b")]), [(1, 2)], [(1, 2)])

    def test_several_rounds(self):
        rules = [("a", "a", "a", "b"), ("b", "b", "b", "c"), ("c", "c", "c", "d")]
        expected = [(0, 0, 0, 1), (0, 0, 2, 0), (0, 2, 1, 0), (0, 3, 0, 0), (2, 1, 1, 0), (2, 2, 0, 0), (3, 0, 1, 0),
                    (3, 1, 0, 0), (4, 0, 0, 0)]
        self.found(plain("abcd", rules), [(0, 0, 0, 1)], expected)

    def test_origins_that_are_found_later_and_are_smaller(self):
        # (0, 0, 3) is above what the second pattern comes from.
        protocol = plain("abc", [("a", "b", "c", "c")])
        self.found(protocol, [(0, 0, 5), (2, 0, 0), (0, 1, 0)], [(0, 0, 5), (0, 1, 0), (2, 0, 0)])

    def test_ascending_order(self):
        found = origins(doubling("x", 4), [(0, 0, 0, 0, 0, 1)])
        self.assertEqual(found, sorted(found))
        self.assertEqual(len(found), 36)

    def test_patterns_that_do_not_fit(self):
        for wrong in WRONG_PATTERNS:
            for patterns in [[wrong], [(0, 1), wrong], [wrong, (0, 1)]]:
                with self.assertRaises(WrongCounts):
                    origins(pair(), patterns)
        with self.assertRaises(WrongCounts):
            origins(EMPTY, [(0,)])

    def test_drawn_protocols(self):
        draw = random.Random(1)
        for seed in range(150):
            many = 1 + seed % 4
            protocol = drawn_rules(seed, many, 1 + seed % 5)
            patterns = drawn_patterns(draw, many, 2)
            self.found(protocol, patterns, naive_origins(protocol, patterns))

    def test_many_rules(self):
        draw = random.Random(2)
        for seed in range(20):
            protocol = drawn_protocol(seed, 5)
            patterns = drawn_patterns(draw, 5, 1)
            self.found(protocol, patterns, naive_origins(protocol, patterns))

    def test_compiled_protocols(self):
        for text, many in [("x = 1 mod 2", 2), ("x >= 2", 2), ("x + -1 * y >= 1", 1)]:
            protocol = compile_text(text)
            patterns = [tuple([many if other == state else 0 for other in range(len(protocol))])
                        for state, output in enumerate(protocol.outputs) if output == 1]
            self.found(protocol, patterns, naive_origins(protocol, patterns))

    def test_great_counts(self):
        great = 10 ** 29
        self.found(plain("ab"), [(great, 0), (0, great), (great, 1)], [(0, great), (great, 0)])
        self.found(plain("ab", [("b", "b", "b", "b")]), [(great, 2)], [(great, 2)])

    def test_lists_stay_as_they_are_and_are_new(self):
        protocol = pair()
        patterns = [(0, 3), (0, 2), (0, 2)]
        origins(protocol, patterns).append((9, 9))
        self.assertEqual(patterns, [(0, 3), (0, 2), (0, 2)])
        self.assertEqual(origins(protocol, patterns), [(0, 2), (2, 1), (3, 0)])
        self.assertEqual(protocol, pair())


class CanCoverTest(unittest.TestCase):
    def test_pair(self):
        for place, expected in [((3, 0), True), ((2, 1), True), ((2, 0), False), ((1, 1), False), ((0, 2), True),
                                ((0, 0), False), ((9, 0), True), ((1, 9), True), ((1, 0), False)]:
            self.assertIs(can_cover(pair(), place, [(0, 2)]), expected, place)

    def test_no_patterns_and_no_agents(self):
        self.assertIs(can_cover(pair(), (3, 0), []), False)
        self.assertIs(can_cover(pair(), (0, 0), [(0, 0)]), True)
        self.assertIs(can_cover(EMPTY, (), [()]), True)
        self.assertIs(can_cover(EMPTY, (), []), False)

    def test_great_populations(self):
        great = 10 ** 29
        self.assertIs(can_cover(pair(), (great, 0), [(0, 2)]), True)
        self.assertIs(can_cover(pair(), (1, great), [(2, 0)]), False)
        self.assertIs(can_cover(pair(), (2, 0), [(0, great)]), False)

    def test_many_patterns_that_are_too_great(self):
        # There are too many origins to find them all.
        protocol = doubling("x", 20)
        self.assertIs(can_cover(protocol, protocol.first_place([6]), [tuple([0] * 21 + [1])]), False)
        self.assertIs(can_cover(protocol, protocol.first_place([6]), [(0, 0, 1, *[0] * 19)]), True)

    def test_small_graphs(self):
        draw = random.Random(3)
        told = []
        for seed in range(60):
            protocol = drawn_rules(seed, 3, 4)
            patterns = drawn_patterns(draw, 3, 2)
            found = origins(protocol, patterns)
            for place in product(range(4), repeat=3):
                expected = comes_to_cover(protocol, place, patterns)
                told.append(expected)
                self.assertIs(can_cover(protocol, place, patterns), expected)
                self.assertIs(any(is_below(origin, place) for origin in found), expected)
        self.assertGreater(min(told.count(True), told.count(False)), 500)

    def test_majority(self):
        for place in counts_up_to(4, 4):
            for patterns in [[(0, 0, 1, 0)], [(0, 0, 0, 2)], [(1, 0, 1, 0), (0, 1, 0, 1)]]:
                expected = comes_to_cover(majority(), tuple(place), patterns)
                self.assertIs(can_cover(majority(), tuple(place), patterns), expected)

    def test_what_does_not_fit(self):
        for wrong in WRONG_PATTERNS:
            with self.assertRaises(WrongCounts):
                can_cover(pair(), wrong, [(0, 2)])
            with self.assertRaises(WrongCounts):
                can_cover(pair(), wrong, [])
            with self.assertRaises(WrongCounts):
                can_cover(pair(), (3, 0), [(0, 2), wrong])
            with self.assertRaises(WrongCounts):
                can_cover(pair(), (3, 0), [wrong, (0, 2)])

    def test_lists_stay_as_they_are(self):
        patterns = [(0, 3), (0, 2)]
        can_cover(pair(), (3, 0), patterns)
        self.assertEqual(patterns, [(0, 3), (0, 2)])


class BeginningTest(unittest.TestCase):
    def test_one(self):
        self.assertEqual(smallest_beginning(pair(), [0], [(0, 2)]), (3, 0))
        self.assertEqual(smallest_beginning(pair(), [1], [(0, 2)]), (0, 2))

    def test_the_first_one_of_several(self):
        self.assertEqual(smallest_beginning(pair(), [0, 1], [(0, 2)]), (0, 2))
        self.assertEqual(smallest_beginning(pair(), [1, 0, 0], [(0, 2)]), (0, 2))
        protocol = plain("abc", [("a", "b", "c", "c")])
        self.assertEqual(smallest_beginning(protocol, [0, 1], [(0, 0, 1), (3, 0, 0), (0, 4, 0)]), (0, 4, 0))
        self.assertEqual(smallest_beginning(protocol, [1, 0], [(0, 0, 1), (3, 0, 0)]), (1, 1, 0))
        self.assertEqual(smallest_beginning(protocol, [0], [(0, 0, 1), (3, 0, 0), (0, 4, 0)]), (3, 0, 0))

    def test_none(self):
        self.assertIsNone(smallest_beginning(pair(), [1], [(1, 1)]))
        self.assertIsNone(smallest_beginning(plain("ab"), [0], [(0, 1)]))
        self.assertIsNone(smallest_beginning(plain("ab"), [0], [(1, 1)]))
        self.assertIsNone(smallest_beginning(pair(), [0, 1], []))

    def test_no_states(self):
        self.assertIsNone(smallest_beginning(pair(), [], [(0, 2)]))
        self.assertIsNone(smallest_beginning(pair(), [], []))
        self.assertEqual(smallest_beginning(pair(), [], [(0, 0)]), (0, 0))
        self.assertEqual(smallest_beginning(EMPTY, [], [()]), ())

    def test_doubling(self):
        for exponent in range(1, 6):
            protocol = doubling("x", exponent)
            pattern = tuple([0] * (exponent + 1) + [1])
            expected = (2 ** exponent, *[0] * (exponent + 1))
            self.assertEqual(smallest_beginning(protocol, [0], [pattern]), expected)

    def test_small_populations(self):
        draw = random.Random(4)
        told = []
        for seed in range(60):
            protocol = drawn_rules(seed, 3, 4)
            patterns = drawn_patterns(draw, 3, 1)
            states = [state for state in range(3) if draw.random() < 0.5]
            found = smallest_beginning(protocol, states, patterns)
            told.append(found is None)
            if found is not None:
                self.assertTrue(comes_to_cover(protocol, found, patterns))
                self.assertTrue(all(found[state] == 0 for state in range(3) if state not in states))
                continue
            for counts in counts_up_to(len(states), 5):
                place = [0] * 3
                for state, count in zip(states, counts):
                    place[state] = count
                self.assertFalse(comes_to_cover(protocol, tuple(place), patterns))
        self.assertGreater(min(told.count(True), told.count(False)), 10)

    def test_patterns_that_do_not_fit(self):
        for wrong in WRONG_PATTERNS:
            for states in [[], [0], [0, 1]]:
                with self.assertRaises(WrongCounts):
                    smallest_beginning(pair(), states, [(0, 1), wrong])

    def test_lists_stay_as_they_are(self):
        states, patterns = [1, 0], [(0, 3), (0, 2)]
        protocol = drawn_protocol(1, 2)
        before = copy.deepcopy(protocol)
        smallest_beginning(protocol, states, patterns)
        self.assertEqual([states, patterns, protocol], [[1, 0], [(0, 3), (0, 2)], before])


if __name__ == "__main__":
    unittest.main()

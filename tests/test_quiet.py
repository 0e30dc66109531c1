"""Points 68, 69, 70 and 71: protocols that fall, and protocols that agree."""

import copy
import random
import unittest
from itertools import product

from mingle.bottoms import bottoms
from mingle.compiling import compile_text
from mingle.errors import TooLarge
from mingle.graphs import explore
from mingle.places import outputs_in, successors
from mingle.protocols import Rulebook
from mingle.quiet import agrees, disagreement, find_sets, is_falling
from mingle.variants import doubling, is_silent
from samples import counts_up_to, drawn_protocol, drawn_rules, majority, names, pair, plain

EMPTY = Rulebook([], [], [], [], [])
SETS_OF_3 = [[], [0], [1], [0, 1], [2], [0, 2], [1, 2], [0, 1, 2]]


def with_outputs(outputs, *rules):
    return Rulebook(list("abcdef"[:len(outputs)]), [], [], list(rules), outputs)


def moving(protocol):
    """The rules that move, as numbers of states."""
    rules = [tuple([protocol.number(name) for name in rule]) for rule in protocol.rules]
    return [rule for rule in rules if sorted(rule[:2]) != sorted(rule[2:])]


def change(rule, members):
    return sum(state in members for state in rule[2:]) - sum(state in members for state in rule[:2])


def naive_is_falling(protocol, sets):
    for rule in moving(protocol):
        shown = [change(rule, members) < 0 and all(change(rule, before) == 0 for before in sets[:at])
                 for at, members in enumerate(sets)]
        if not any(shown):
            return False
    return True


def naive_find_sets(protocol):
    """The search of point 70 as it is told."""
    left = moving(protocol)
    found = []
    while left:
        for number in range(2 ** len(protocol)):
            members = [state for state in range(len(protocol)) if number // 2 ** state % 2 == 1]
            changes = [change(rule, members) for rule in left]
            if all(by <= 0 for by in changes) and any(by < 0 for by in changes):
                break
        else:
            return None
        found.append(members)
        left = [rule for rule, by in zip(left, changes) if by == 0]
    return found


def has_circle(graph):
    """True if steps lead from some place back to it."""
    left = {number: set(graph.steps(number)) for number in range(len(graph))}
    while True:
        ends = [number for number, row in left.items() if not row & set(left)]
        if not ends:
            return len(left) > 0
        for number in ends:
            del left[number]


class FallingTest(unittest.TestCase):
    def falls(self, protocol, sets, expected):
        before = copy.deepcopy(sets)
        self.assertIs(is_falling(protocol, sets), expected)
        self.assertEqual(sets, before)
        self.assertIs(naive_is_falling(protocol, sets), expected)

    def test_one_set(self):
        self.falls(pair(), [[0]], True)
        self.falls(pair(), [[1]], False)
        self.falls(pair(), [[0, 1]], False)
        self.falls(pair(), [[]], False)

    def test_an_empty_list(self):
        self.falls(pair(), [], False)
        self.falls(plain("ab"), [], True)
        self.falls(EMPTY, [], True)
        self.falls(plain("ab", ["abba", "aaaa", "baba"]), [], True)

    def test_rules_that_do_not_move(self):
        protocol = plain("abc", ["abba", "baab", "ccbc", "acac", "bbbb"])
        self.falls(protocol, [], False)
        self.falls(protocol, [[2]], True)
        self.falls(protocol, [[0], [2]], True)
        self.falls(protocol, [[1]], False)
        # One of the two exchanges, the other one moves.
        self.falls(plain("abc", ["abba", "baac"]), [], False)
        self.falls(plain("abc", ["abba", "baac"]), [[1]], True)

    def test_sets_without_states(self):
        self.falls(pair(), [[], [0]], True)
        self.falls(pair(), [[], [], [0], []], True)
        self.falls(plain("a"), [[]], True)
        self.falls(EMPTY, [[]], True)

    def test_numbers_that_are_no_states(self):
        great = 10 ** 29
        for other in [2, -1, -2, great, -great]:
            self.falls(pair(), [[other]], False)
            self.falls(pair(), sorted([[other], [0]]), True)
            self.falls(pair(), [sorted([other, 0])], True)
            self.falls(pair(), [sorted([other, 1])], False)
        self.falls(EMPTY, [[0], [-1, great]], True)

    def test_a_set_before_that_is_raised(self):
        self.falls(pair(), [[1], [0]], False)
        self.falls(pair(), [[0], [1]], True)
        self.falls(pair(), [[0, 1], [0]], True)

    def test_each_rule_needs_a_set(self):
        protocol = plain("abc", ["aaab", "bbbc"])
        self.falls(protocol, [[0]], False)
        self.falls(protocol, [[1]], False)
        self.falls(protocol, [[0], [1]], True)
        self.falls(protocol, [[0], [0, 1]], True)
        self.falls(protocol, [[0, 1], [0]], True)
        self.falls(protocol, [[0, 1]], False)
        self.falls(protocol, [[1], [0]], False)
        self.falls(protocol, [[0], [2], [1]], False)

    def test_changes_by_two(self):
        self.falls(plain("ab", ["aabb"]), [[0]], True)
        self.falls(plain("ab", ["aabb"]), [[1]], False)
        self.falls(plain("abc", ["abcc", "ccac"]), [[2], [0]], False)
        self.falls(plain("abc", ["abcc"]), [[0, 1]], True)
        self.falls(plain("abc", ["aabc"]), [[0, 1]], True)
        self.falls(plain("abc", ["aabc"]), [[0, 1, 2], [1], [0]], False)

    def test_results_in_the_other_order(self):
        for rule in ["abac", "abca", "baac", "baca"]:
            self.falls(plain("abc", [rule]), [[1]], True)
            self.falls(plain("abc", [rule]), [[0], [1]], True)
            self.falls(plain("abc", [rule]), [[2]], False)

    def test_rules_against_each_other(self):
        protocol = plain("ab", ["aaab", "bbba"])
        for first, second in product([[], [0], [1], [0, 1]], repeat=2):
            self.falls(protocol, [first, second], False)

    def test_drawn_protocols(self):
        draw = random.Random(1)
        told = []
        for seed in range(300):
            many = draw.randint(1, 4)
            protocol = drawn_rules(seed, many, 3)
            sets = [sorted(draw.sample(range(-1, many + 1), draw.randint(0, many))) for _ in range(draw.randint(0, 3))]
            expected = naive_is_falling(protocol, sets)
            self.falls(protocol, sets, expected)
            told.append(expected)
        self.assertGreater(min(told.count(True), told.count(False)), 50)

    def test_many_states(self):
        states = names(400)
        rules = [(state, other, other, other) for state, other in zip(states, states[1:])]
        protocol = Rulebook(states, [], [], rules, [0] * 400)
        self.assertIs(is_falling(protocol, [[number] for number in range(399)]), True)
        self.assertIs(is_falling(protocol, [[number] for number in range(398)]), False)


class FindTest(unittest.TestCase):
    def found(self, protocol, expected):
        before = copy.deepcopy(protocol)
        self.assertEqual(find_sets(protocol), expected)
        self.assertEqual(naive_find_sets(protocol), expected)
        if expected is not None:
            self.assertIs(is_falling(protocol, expected), True)
        self.assertEqual(protocol, before)

    def test_document(self):
        self.found(pair(), [[0]])

    def test_no_rule_that_moves(self):
        self.found(EMPTY, [])
        self.found(plain("abc"), [])
        self.found(plain("abc", ["abba", "cccc"]), [])

    def test_several_in_their_order(self):
        self.found(plain("abc", ["aaab", "bbbc"]), [[0], [1]])
        self.found(plain("abc", ["ccca", "bbbc"]), [[1], [2]])
        self.found(plain("abc", ["ccbc", "bbab"]), [[2], [1]])
        self.found(plain("abcd", ["dddc", "ccca", "aaab"]), [[3], [2], [0]])

    def test_sets_of_several_states(self):
        # Neither the agents in a nor those in b become fewer by each rule.
        self.found(plain("abc", ["aabc", "bbac"]), [[0, 1]])
        self.found(plain("abcd", ["abcc", "bcad", "acbd"]), [[0, 1], [2]])

    def test_the_first_set_is_sought_from_the_beginning_again(self):
        # {a} is raised until the rule for c is gone.
        self.found(plain("abc", ["ccca", "aaab"]), [[2], [0]])
        self.found(plain("abcd", ["ddac", "ccac", "aaab"]), [[3], [2], [0]])

    def test_none(self):
        self.found(plain("ab", ["aaab", "bbba"]), None)
        self.found(majority(), None)
        self.found(plain("abc", ["aaab", "bbbc", "ccca"]), None)
        # One rule falls, the others do not.
        self.found(plain("abc", ["ccca", "aaab", "bbba"]), None)

    def test_doubling(self):
        for exponent in range(1, 9):
            protocol = doubling("x", exponent)
            self.found(protocol, naive_find_sets(protocol))
            self.assertIsNotNone(find_sets(protocol))

    def test_10_and_11_states(self):
        def chain(many):
            states = names(many)
            rules = [(state, state, other, other) for state, other in zip(states, states[1:])]
            return Rulebook(states, [], [], rules, [0] * many)

        self.found(chain(10), [[number] for number in range(9)])
        for protocol in [chain(11), plain(names(11)), plain(names(400)), doubling("x", 9)]:
            with self.assertRaises(TooLarge) as caught:
                find_sets(protocol)
            self.assertEqual(caught.exception.limit, 10)
        self.found(plain(names(10)), [])
        self.found(drawn_protocol(1, 10), None)

    def test_drawn_protocols(self):
        told = []
        for seed in range(300):
            protocol = drawn_rules(seed, 2 + seed % 4, 1 + seed % 5)
            self.found(protocol, naive_find_sets(protocol))
            told.append(len(find_sets(protocol) or []))
        self.assertLessEqual({0, 1, 2, 3}, set(told))

    def test_if_any_list_shows_it_one_is_found(self):
        told = []
        for seed in range(120):
            protocol = drawn_rules(seed, 3, 1 + seed % 4)
            lists = [list(sets) for many in range(4) for sets in product(SETS_OF_3, repeat=many)]
            expected = any(naive_is_falling(protocol, sets) for sets in lists)
            self.assertIs(find_sets(protocol) is not None, expected)
            told.append(expected)
        self.assertGreater(min(told.count(True), told.count(False)), 10)

    def test_lists_are_new(self):
        protocol = pair()
        find_sets(protocol)[0].append(9)
        find_sets(protocol).clear()
        self.assertEqual(find_sets(protocol), [[0]])

    def test_falling_protocols_come_to_rest(self):
        fallen = 0
        for seed in range(120):
            protocol = drawn_rules(seed, 3, 1 + seed % 4)
            if find_sets(protocol) is None:
                continue
            fallen += len(moving(protocol)) > 0
            for counts in counts_up_to(3, 4):
                graph = explore(protocol, tuple(counts))
                self.assertFalse(has_circle(graph))
                for region in bottoms(graph):
                    self.assertEqual(len(region), 1)
                    self.assertTrue(is_silent(protocol, graph.place(region[0])))
        self.assertGreater(fallen, 40)

    def test_numbers_of_agents_become_smaller(self):
        for protocol in [pair(), doubling("x", 3), plain("abc", ["ccca", "aaab", "abbb"])]:
            sets = find_sets(protocol)
            for counts in counts_up_to(len(protocol), 4):
                place = tuple(counts)
                here = tuple([sum(place[state] for state in members) for members in sets])
                for following in successors(protocol, place):
                    self.assertLess(tuple([sum(following[state] for state in members) for members in sets]), here)


class AgreeTest(unittest.TestCase):
    def disagrees(self, protocol, expected):
        self.assertEqual(disagreement(protocol), expected)
        self.assertIs(agrees(protocol), expected is None)
        # Two agents that disagree and rest show it; more agents never need to be looked at.
        resting = [place for place in map(tuple, counts_up_to(len(protocol), 3)) if is_silent(protocol, place)]
        wrong = [place for place in resting if len(outputs_in(protocol, place)) > 1]
        self.assertEqual(wrong == [], expected is None)

    def test_document(self):
        self.disagrees(pair(), (0, 1))

    def test_one_output(self):
        self.disagrees(EMPTY, None)
        self.disagrees(with_outputs([7]), None)
        self.disagrees(with_outputs([3, 3, 3]), None)

    def test_meetings_that_move(self):
        self.disagrees(with_outputs([0, 1]), (0, 1))
        self.disagrees(with_outputs([0, 1], "abbb"), None)
        self.disagrees(with_outputs([0, 1], "babb"), None)
        self.disagrees(with_outputs([0, 1], "baaa", "abbb"), None)
        self.disagrees(with_outputs([1, 0], "baaa", "abbb"), None)

    def test_meetings_that_do_not_move(self):
        self.disagrees(with_outputs([0, 1], "abba"), (0, 1))
        self.disagrees(with_outputs([0, 1], "abba", "baab"), (0, 1))
        self.disagrees(with_outputs([0, 1], "abab", "baba"), (0, 1))
        self.disagrees(with_outputs([0, 1], "abba", "bbaa", "aabb"), (0, 1))
        self.disagrees(with_outputs([0, 1], "abba", "baaa"), None)

    def test_the_smallest_pair(self):
        self.disagrees(with_outputs([0, 1, 2]), (0, 1))
        self.disagrees(with_outputs([0, 1, 2], "abaa"), (0, 2))
        self.disagrees(with_outputs([0, 1, 2], "baaa", "caaa"), (1, 2))
        self.disagrees(with_outputs([0, 0, 2]), (0, 2))
        self.disagrees(with_outputs([0, 0, 2], "acaa"), (1, 2))
        self.disagrees(with_outputs([5, 0, 0, 5], "baaa", "acaa"), (1, 3))
        self.disagrees(with_outputs([5, 0, 0, 5], "baaa", "acaa", "dbaa"), (2, 3))
        self.disagrees(with_outputs([5, 0, 0, 5], "baaa", "acaa", "dbaa", "cdaa"), None)

    def test_samples(self):
        self.disagrees(majority(), (2, 3))
        for exponent in range(1, 5):
            self.disagrees(doubling("x", exponent), None)
        self.disagrees(compile_text("x = 1 mod 2"), disagreement(compile_text("x = 1 mod 2")))

    def test_drawn_protocols(self):
        told = []
        for seed in range(200):
            draw = random.Random(seed)
            protocol = drawn_protocol(seed, draw.randint(1, 4))
            outputs = [draw.randint(0, 1) for _ in protocol.outputs]
            protocol = Rulebook(protocol.states, [], [], protocol.rules, outputs)
            found = [pair for pair in product(range(len(protocol)), repeat=2)
                     if pair[0] < pair[1] and outputs[pair[0]] != outputs[pair[1]]
                     and all(sorted(protocol.meet(*order)) == list(pair) for order in (pair, pair[::-1]))]
            self.disagrees(protocol, found[0] if found else None)
            told.append(found == [])
        self.assertGreater(min(told.count(True), told.count(False)), 20)

    def test_falling_protocols_that_agree(self):
        told = 0
        for seed in range(400):
            protocol = drawn_rules(seed, 3, 4)
            protocol = Rulebook(protocol.states, [], [], protocol.rules, [seed % 2, 1, 0])
            if not agrees(protocol) or find_sets(protocol) is None:
                continue
            told += 1
            for counts in counts_up_to(3, 4):
                graph = explore(protocol, tuple(counts))
                for region in bottoms(graph):
                    place = graph.place(region[0])
                    self.assertTrue(len(region) == 1 and is_silent(protocol, place))
                    self.assertLessEqual(len(outputs_in(protocol, place)), 1)
        self.assertGreater(told, 5)

    def test_many_states(self):
        states = names(400)
        self.assertEqual(disagreement(Rulebook(states, [], [], [], [0] * 399 + [1])), (0, 399))
        self.assertIs(agrees(Rulebook(states, [], [], [], [3] * 400)), True)


if __name__ == "__main__":
    unittest.main()

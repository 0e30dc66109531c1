"""Points 35, 36 and 37: kept weights, their base, and weights that separate places."""

import copy
import random
import unittest
from fractions import Fraction
from math import lcm

from mingle.compiling import compile_text
from mingle.errors import WrongCounts
from mingle.graphs import explore
from mingle.places import size
from mingle.protocols import Rulebook
from mingle.weights import base, is_kept, separating, weight_of
from samples import drawn_protocol, drawn_rules, majority, names, pair

EMPTY = Rulebook([], [], [], [], [])


def with_rules(states, *rules):
    return Rulebook(list(states), [], [], [tuple(rule) for rule in rules], [0] * len(states))


def naive_base(protocol):
    """The base of point 36, by the reduced form of all equations at once."""
    many = len(protocol)
    rows = []
    for rule in protocol.rules:
        row = [Fraction(0)] * many
        for name, factor in zip(rule, [1, 1, -1, -1]):
            row[protocol.number(name)] += factor
        rows.append(row)
    bound = []
    for column in range(many):
        at = next((k for k in range(len(bound), len(rows)) if rows[k][column] != 0), None)
        if at is None:
            continue
        top = len(bound)
        rows[top], rows[at] = rows[at], rows[top]
        rows[top] = [number / rows[top][column] for number in rows[top]]
        for k in range(len(rows)):
            if k != top:
                rows[k] = [here - rows[k][column] * there for here, there in zip(rows[k], rows[top])]
        bound.append(column)
    found = []
    for free in range(many):
        if free not in bound:
            weights = [Fraction(int(state == free)) for state in range(many)]
            for row, column in zip(rows, bound):
                weights[column] = -row[free]
            whole = lcm(*[number.denominator for number in weights])
            found.append([int(number * whole) for number in weights])
    return found


class KeptTest(unittest.TestCase):
    def kept(self, protocol, *lists):
        for weights in lists:
            self.assertIs(is_kept(protocol, weights), True, weights)

    def not_kept(self, protocol, *lists):
        for weights in lists:
            self.assertIs(is_kept(protocol, weights), False, weights)

    def test_all_1(self):
        for protocol in [pair(), majority(), drawn_protocol(1, 6), compile_text("x + -1 * y >= 1")]:
            self.kept(protocol, [1] * len(protocol), [0] * len(protocol), [-7] * len(protocol))

    def test_small_protocols(self):
        self.kept(EMPTY, [])
        self.kept(with_rules("ab"), [0, 1], [5, -3])
        self.kept(pair(), [4, 4])
        self.not_kept(pair(), [4, 3], [0, 1], [1, 0])

    def test_one_rule_changes_them(self):
        rules = [("a", "b", "n", "n"), ("b", "a", "n", "n")]
        weights = [1, -1, 0, 0]
        self.kept(with_rules("abny", *rules), weights)
        self.kept(with_rules("abny", *rules, "bybn"), weights)
        for rule in [("a", "n", "y", "n"), ("n", "a", "y", "n"), ("b", "n", "n", "y"), ("y", "n", "a", "n"),
                     ("y", "n", "n", "a"), ("b", "b", "b", "a")]:
            for changed in [[*rules, rule], [rule, *rules], [rules[0], rule, rules[1]]]:
                self.not_kept(with_rules("abny", *changed), weights)

    def test_negative_weights(self):
        self.kept(majority(), [1, -1, 0, 0], [-1, 1, 0, 0], [0, 2, 1, 1], [-3, -7, -5, -5])
        self.not_kept(majority(), [1, -1, 0, 1], [1, 1, 0, 0], [-1, -1, 0, 0])

    def test_a_rule_with_one_state_twice(self):
        protocol = with_rules("xyz", "xxyz")
        self.kept(protocol, [1, 2, 0], [1, 0, 2], [3, -1, 7])
        self.not_kept(protocol, [2, 2, 0], [1, 1, 0], [1, 2, 1])

    def test_great_weights(self):
        great = 10 ** 29
        self.kept(with_rules("xyz", "xxyz"), [great, great + 5, great - 5])
        self.not_kept(with_rules("xyz", "xxyz"), [great, great + 5, great - 4])

    def test_meetings_keep_the_weight_of_a_place(self):
        draw = random.Random(1)
        for seed in range(30):
            protocol = drawn_rules(seed, 4, 4)
            place = tuple([draw.randint(0, 2) for _ in range(4)])
            graph = explore(protocol, place)
            for weights in base(protocol):
                told = {weight_of(graph.place(number), weights) for number in range(len(graph))}
                self.assertEqual(told, {weight_of(place, weights)})


class WeightTest(unittest.TestCase):
    def test_weights_of_places(self):
        self.assertEqual(weight_of((), []), 0)
        self.assertEqual(weight_of((3, 0), [1, 1]), 3)
        self.assertEqual(weight_of((3, 2), [5, -7]), 1)
        self.assertEqual(weight_of((1, 2, 3), [0, -1, 0]), -2)
        self.assertEqual(weight_of((10 ** 29, 1), [10, 1]), 10 ** 30 + 1)
        self.assertEqual(weight_of((4, 5, 6), [1] * 3), size((4, 5, 6)))


class BaseTest(unittest.TestCase):
    def based(self, protocol, expected):
        self.assertEqual(base(protocol), expected)
        self.assertEqual(naive_base(protocol), expected)

    def test_document(self):
        self.based(Rulebook(["x", "y", "z"], [("x", "x")], [], [("x", "x", "y", "z")], [0, 0, 1]), [[1, 2, 0], [1, 0, 2]])

    def test_without_states(self):
        self.based(EMPTY, [])

    def test_without_rules(self):
        self.based(with_rules("a"), [[1]])
        self.based(with_rules("abc"), [[1, 0, 0], [0, 1, 0], [0, 0, 1]])

    def test_rules_that_change_nothing(self):
        self.based(with_rules("abc", "abab", "aaaa", "cbcb"), [[1, 0, 0], [0, 1, 0], [0, 0, 1]])
        self.based(with_rules("abc", "abba", "bccb"), [[1, 0, 0], [0, 1, 0], [0, 0, 1]])
        self.based(with_rules("xyz", "yxxy", "xxyz", "xzxz"), [[1, 2, 0], [1, 0, 2]])

    def test_one_kind_of_weights(self):
        self.based(pair(), [[1, 1]])
        self.based(with_rules("abc", "abbb", "bccc"), [[1, 1, 1]])

    def test_majority(self):
        self.based(majority(), [[-1, 1, 0, 0], [2, 0, 1, 1]])

    def test_free_states_before_and_behind_bound_ones(self):
        self.based(with_rules("abcd", "bbdd"), [[1, 0, 0, 0], [0, 0, 1, 0], [0, 1, 0, 1]])
        self.based(with_rules("abcd", "acaa"), [[0, 1, 0, 0], [1, 0, 1, 0], [0, 0, 0, 1]])
        self.based(with_rules("abcd", "cdbb"), [[1, 0, 0, 0], [0, 1, 2, 0], [0, 1, 0, 2]])
        self.based(with_rules("abcd", "adbc"), [[1, 1, 0, 0], [1, 0, 1, 0], [-1, 0, 0, 1]])

    def test_a_state_that_is_bound_by_two_free_ones(self):
        self.based(with_rules("abc", "aabc"), [[1, 2, 0], [1, 0, 2]])
        self.based(with_rules("abc", "bcaa"), [[1, 2, 0], [1, 0, 2]])
        self.based(with_rules("abc", "aacb"), [[1, 2, 0], [1, 0, 2]])

    def test_fractions_that_must_be_made_whole(self):
        # 2 a = b + c and 2 b = c + d, so 4 a = 3 c + d.
        self.based(with_rules("abcd", "aabc", "bbcd"), [[3, 2, 4, 0], [1, 2, 0, 4]])
        # 2 a = b + c, 2 b = c + e and b + e = c + d, so c = 3 e - 2 d, b = 2 e - d and 2 a = 5 e - 3 d.
        self.based(with_rules("abcde", "aabc", "bbec", "becd"), [[-3, -2, -4, 2, 0], [5, 4, 6, 0, 2]])

    def test_the_smallest_integer(self):
        # 2 a = c + d, 3 b = 2 c + d and 3 e = c + 2 d: halves and thirds become whole by 6, not by a smaller integer.
        self.based(with_rules("abecd", "aacd", "bbce", "eebd"), [[3, 4, 2, 6, 0], [3, 2, 4, 0, 6]])
        # 2 a = b + c and 2 b = c + d: halves and quarters become whole by 4.
        self.based(with_rules("abcd", "bbcd", "aabc"), [[3, 2, 4, 0], [1, 2, 0, 4]])

    def test_few_rules(self):
        for seed in range(150):
            protocol = drawn_rules(seed, 2 + seed % 7, 1 + seed % 6)
            self.check(protocol)

    def test_many_rules(self):
        for seed in range(40):
            self.check(drawn_protocol(seed, 2 + seed % 7))
            self.check(drawn_rules(seed, 12, 10 + seed % 5))
        self.check(compile_text("x + -1 * y >= 2"))
        self.check(compile_text("x + 2 * y = 1 mod 5"))

    def check(self, protocol):
        found = base(protocol)
        self.assertEqual(found, naive_base(protocol), protocol.rules)
        for weights in found:
            self.assertIs(is_kept(protocol, weights), True)
            self.assertEqual({type(weight) for weight in weights}, {int})

    def test_great_factors(self):
        # Each state weighs half of what the next one and the last one weigh together.
        states = names(60)
        rules = [(state, state, following, states[-1]) for state, following in zip(states, states[1:-1])]
        protocol = with_rules(states, *rules)
        first, second = base(protocol)
        self.assertEqual([first[0], first[1], *first[-3:]], [1, 2, 2 ** 57, 2 ** 58, 0])
        self.assertEqual([second[0], second[58], second[59]], [2 ** 58 - 1, 0, 2 ** 58])
        self.check(protocol)

    def test_400_states(self):
        protocol = drawn_protocol(2, 400)
        self.assertEqual(base(protocol), [[1] * 400])

    def test_lists_are_new(self):
        protocol = pair()
        base(protocol)[0][0] = 7
        base(protocol).append([])
        self.assertEqual(base(protocol), [[1, 1]])
        weights = [3, 3]
        is_kept(protocol, weights)
        self.assertEqual(weights, [3, 3])


class SeparatingTest(unittest.TestCase):
    def test_the_first_weights_that_differ(self):
        protocol = with_rules("xyz", "xxyz")
        self.assertEqual(separating(protocol, (2, 0, 0), (0, 2, 0)), [1, 2, 0])
        self.assertEqual(separating(protocol, (2, 0, 0), (0, 0, 2)), [1, 2, 0])
        self.assertEqual(separating(protocol, (2, 1, 0), (2, 1, 1)), [1, 0, 2])
        self.assertEqual(separating(protocol, (0, 1, 4), (0, 1, 1)), [1, 0, 2])

    def test_none(self):
        protocol = with_rules("xyz", "xxyz")
        for first, second in [((2, 0, 0), (0, 1, 1)), ((0, 1, 1), (2, 0, 0)), ((4, 0, 0), (0, 2, 2)),
                              ((3, 1, 1), (3, 1, 1)), ((0, 0, 0), (0, 0, 0))]:
            self.assertIsNone(separating(protocol, first, second))
        self.assertIsNone(separating(EMPTY, (), ()))
        self.assertIsNone(separating(pair(), (1, 2), (3, 0)))

    def test_other_sizes(self):
        self.assertEqual(separating(pair(), (1, 2), (1, 1)), [1, 1])
        self.assertEqual(separating(majority(), (1, 0, 0, 0), (1, 0, 1, 0)), [2, 0, 1, 1])

    def test_places_that_do_not_fit(self):
        for wrong in [(), (3,), (3, 0, 0), (-1, 4), (4, -1)]:
            for first, second in [(wrong, (3, 0)), ((3, 0), wrong), (wrong, wrong)]:
                with self.assertRaises(WrongCounts):
                    separating(pair(), first, second)

    def test_no_place_can_be_reached_from_the_other_one(self):
        draw = random.Random(2)
        told = []
        for seed in range(80):
            protocol = drawn_rules(seed, 4, 3)
            first, second = [tuple([draw.randint(0, 2) for _ in range(4)]) for _ in range(2)]
            weights = separating(protocol, first, second)
            differing = [row for row in base(protocol) if weight_of(first, row) != weight_of(second, row)]
            self.assertEqual(weights, differing[0] if differing else None)
            if weights is not None:
                self.assertIsNone(explore(protocol, first).number_of(second))
                self.assertIsNone(explore(protocol, second).number_of(first))
            told.append(weights is None)
            graph = explore(protocol, first)
            for number in range(len(graph)):
                self.assertIsNone(separating(protocol, first, graph.place(number)))
        self.assertIn(False, told)

    def test_protocols_stay_as_they_are(self):
        protocol = drawn_protocol(3, 5)
        before = copy.deepcopy(protocol)
        base(protocol)
        separating(protocol, (1, 0, 0, 0, 0), (0, 1, 0, 0, 0))
        self.assertEqual(protocol, before)


if __name__ == "__main__":
    unittest.main()

"""Points 38, 39 and 40: the chances of steps and of bottoms, and the expected number of meetings."""

import random
import unittest
from fractions import Fraction

from mingle.bottoms import bottoms
from mingle.chances import bottom_chances, expected_meetings, step_chances
from mingle.errors import TooLarge, WrongCounts
from mingle.graphs import explore
from mingle.protocols import Rulebook
from samples import drawn_protocol, majority, pair, plain

EMPTY = Rulebook([], [], [], [], [])


def told(number):
    """The pair of a fraction of Python's own, or of an integer."""
    return (Fraction(number).numerator, Fraction(number).denominator)


def naive_steps(protocol, place):
    """The chances of steps, by all ordered pairs of agents."""
    crowd = [state for state, count in enumerate(place) for _ in range(count)]
    found = {}
    for first in range(len(crowd)):
        for second in range(len(crowd)):
            if first != second:
                here = list(crowd)
                here[first], here[second] = protocol.meet(here[first], here[second])
                following = tuple([here.count(state) for state in range(len(protocol))])
                found[following] = found.get(following, 0) + 1
    pairs = len(crowd) * (len(crowd) - 1)
    if pairs == 0:
        return [(place, Fraction(1))]
    return [(following, Fraction(found[following], pairs)) for following in sorted(found)]


def naive_solution(rows):
    """The solution of equations with Python's fractions, by plain elimination."""
    rows = [list(row) for row in rows]
    for column in range(len(rows)):
        at = next(k for k in range(column, len(rows)) if rows[k][column] != 0)
        rows[column], rows[at] = rows[at], rows[column]
        rows[column] = [number / rows[column][column] for number in rows[column]]
        for k in range(len(rows)):
            if k != column and rows[k][column] != 0:
                rows[k] = [here - rows[k][column] * there for here, there in zip(rows[k], rows[column])]
    return [row[-1] for row in rows]


def naive_means(graph, inside, gains):
    """What each place outside is worth: its gain and the mean of what the next places are worth, as in point 40.

    inside has what the places of the bottoms are worth.
    """
    outside = [number for number in range(len(graph)) if number not in inside]
    rows = []
    for number in outside:
        row = [Fraction(int(number == other)) for other in outside] + [Fraction(gains)]
        for following, chance in naive_steps(graph.protocol, graph.place(number)):
            other = graph.number_of(following)
            if other in inside:
                row[-1] += chance * inside[other]
            else:
                row[outside.index(other)] -= chance
        rows.append(row)
    return dict(inside) | dict(zip(outside, naive_solution(rows)))


def naive_bottoms(graph):
    """The chances of the bottoms, one system of equations for each."""
    found = []
    for wanted in bottoms(graph):
        inside = {number: int(region == wanted) for region in bottoms(graph) for number in region}
        found.append(naive_means(graph, inside, 0)[0])
    return found


def naive_expected(graph):
    return naive_means(graph, {number: 0 for region in bottoms(graph) for number in region}, 1)[0]


def row_of(many):
    """A single agent in "a" goes on in meetings with those in "z"; so many of its states are left for good."""
    states = [f"s{number}" for number in range(many)] + ["y", "z"]
    following = states[1:many] + ["y"]
    rules = [(state, "z", after, "z") for state, after in zip(states, following)]
    return Rulebook(states, [], [], rules, [0] * (many + 2)), (1, *[0] * many, 1)


class StepTest(unittest.TestCase):
    def test_no_agent_and_one(self):
        self.assertEqual(step_chances(pair(), (0, 0)), [((0, 0), (1, 1))])
        self.assertEqual(step_chances(pair(), (1, 0)), [((1, 0), (1, 1))])
        self.assertEqual(step_chances(pair(), (0, 1)), [((0, 1), (1, 1))])
        self.assertEqual(step_chances(EMPTY, ()), [((), (1, 1))])

    def test_two_agents(self):
        self.assertEqual(step_chances(pair(), (2, 0)), [((1, 1), (1, 1))])
        self.assertEqual(step_chances(pair(), (1, 1)), [((1, 1), (1, 1))])

    def test_two_agents_in_the_same_state(self):
        self.assertEqual(step_chances(pair(), (3, 0)), [((2, 1), (1, 1))])
        self.assertEqual(step_chances(pair(), (2, 1)), [((1, 2), (1, 3)), ((2, 1), (2, 3))])
        self.assertEqual(step_chances(pair(), (3, 2)), [((2, 3), (3, 10)), ((3, 2), (7, 10))])

    def test_rules_in_one_order_only(self):
        protocol = plain(["a", "b"], [("a", "b", "b", "b")])
        self.assertEqual(step_chances(protocol, (1, 1)), [((0, 2), (1, 2)), ((1, 1), (1, 2))])
        self.assertEqual(step_chances(protocol, (2, 3)), [((1, 4), (3, 10)), ((2, 3), (7, 10))])
        both = plain(["a", "b"], [("a", "b", "b", "b"), ("b", "a", "a", "a")])
        self.assertEqual(step_chances(both, (1, 1)), [((0, 2), (1, 2)), ((2, 0), (1, 2))])
        self.assertEqual(step_chances(both, (2, 3)), [((1, 4), (3, 10)), ((2, 3), (2, 5)), ((3, 2), (3, 10))])

    def test_several_meetings_that_lead_to_one_place(self):
        protocol = plain(["a", "b", "c"], [("a", "b", "c", "b"), ("b", "a", "b", "c"), ("a", "c", "c", "c")])
        self.assertEqual(step_chances(protocol, (1, 1, 1)), [((0, 1, 2), (1, 2)), ((1, 1, 1), (1, 2))])

    def test_the_place_itself(self):
        swap = plain(["a", "b"], [("a", "b", "b", "a")])
        self.assertEqual(step_chances(swap, (2, 1)), [((2, 1), (1, 1))])
        # It is left out if each meeting leads away from it, and it stands in its order.
        protocol = plain(["a", "b"], [("a", "a", "b", "b"), ("b", "b", "a", "a")])
        self.assertEqual(step_chances(protocol, (2, 0)), [((0, 2), (1, 1))])
        self.assertEqual(step_chances(protocol, (2, 2)), [((0, 4), (1, 6)), ((2, 2), (2, 3)), ((4, 0), (1, 6))])
        with_swap = plain(["a", "b"], [("a", "b", "b", "a"), ("b", "a", "b", "b")])
        self.assertEqual(step_chances(with_swap, (2, 1)), [((1, 2), (1, 3)), ((2, 1), (2, 3))])

    def test_great_counts(self):
        great = 10 ** 29
        expected = [((great - 1, 2), told(Fraction(great - 1, great + 1))), ((great, 1), told(Fraction(2, great + 1)))]
        self.assertEqual(step_chances(pair(), (great, 1)), expected)

    def test_places_that_do_not_fit(self):
        for place in [(), (1,), (3, 0, 0), (0, 0, 0), (-1, 1), (-1, 4), (4, -1)]:
            with self.assertRaises(WrongCounts):
                step_chances(pair(), place)

    def test_drawn_protocols(self):
        draw = random.Random(1)
        for seed in range(150):
            protocol = drawn_protocol(seed, 2 + seed % 4)
            place = tuple([draw.choice([0, 0, 1, 2, 3]) for _ in protocol.states])
            found = step_chances(protocol, place)
            self.assertEqual(found, [(following, told(chance)) for following, chance in naive_steps(protocol, place)])
            self.assertEqual(sum([Fraction(*chance) for _, chance in found]), 1)
            self.assertEqual([following for following, _ in found], sorted([following for following, _ in found]))


class BottomTest(unittest.TestCase):
    def test_one_bottom(self):
        self.assertEqual(bottom_chances(explore(pair(), (3, 0))), [(1, 1)])
        protocol = plain(["a", "b", "c"], [("a", "a", "b", "b"), ("b", "b", "b", "c"), ("b", "c", "b", "b")])
        self.assertEqual(bottom_chances(explore(protocol, (2, 0, 0))), [(1, 1)])

    def test_the_first_place_is_in_a_bottom(self):
        for protocol, place in [(pair(), (0, 0)), (pair(), (1, 0)), (pair(), (1, 4)), (EMPTY, ())]:
            self.assertEqual(bottom_chances(explore(protocol, place)), [(1, 1)])
        protocol = plain(["a", "b"], [("a", "a", "a", "b"), ("a", "b", "a", "a")])
        self.assertEqual(bottom_chances(explore(protocol, (5, 0))), [(1, 1)])

    def test_several_bottoms(self):
        both = plain(["a", "b"], [("a", "b", "b", "b"), ("b", "a", "a", "a")])
        for place in [(1, 1), (2, 2), (1, 3), (4, 3)]:
            graph = explore(both, place)
            ends = [graph.place(region[0]) for region in bottoms(graph)]
            share = Fraction(place[0], sum(place))
            chances = {(sum(place), 0): told(share), (0, sum(place)): told(1 - share)}
            self.assertEqual(bottom_chances(graph), [chances[end] for end in ends])

    def test_the_order_of_bottoms(self):
        both = plain(["a", "b"], [("a", "b", "b", "b"), ("b", "a", "a", "a")])
        graph = explore(both, (1, 3))
        self.assertEqual([graph.place(region[0]) for region in bottoms(graph)], [(0, 4), (4, 0)])
        self.assertEqual(bottom_chances(graph), [(3, 4), (1, 4)])
        graph = explore(both, (3, 1))
        self.assertEqual([graph.place(region[0]) for region in bottoms(graph)], [(4, 0), (0, 4)])
        self.assertEqual(bottom_chances(graph), [(3, 4), (1, 4)])

    def test_a_bottom_that_is_entered_at_several_places(self):
        rules = [("a", "b", "c", "b"), ("b", "a", "d", "b"), ("c", "b", "d", "b"), ("d", "b", "c", "b")]
        graph = explore(plain(list("abcd"), rules), (1, 1, 0, 0))
        self.assertEqual([len(graph), len(bottoms(graph)), bottom_chances(graph)], [3, 1, [(1, 1)]])

    def test_drawn_protocols(self):
        many = 0
        for seed in range(60):
            protocol = drawn_protocol(seed, 3 + seed % 2)
            for place in [(3,) + (0,) * (len(protocol) - 1), (2, 1, 1) + (0,) * (len(protocol) - 3)]:
                graph = explore(protocol, place)
                chances = bottom_chances(graph)
                self.assertEqual(chances, [told(chance) for chance in naive_bottoms(graph)], seed)
                self.assertEqual(sum([Fraction(*chance) for chance in chances]), 1)
                many += len(chances) > 1
        self.assertGreater(many, 10)

    def test_majority(self):
        graph = explore(majority(), (2, 2, 0, 0))
        self.assertEqual(bottom_chances(graph), [told(chance) for chance in naive_bottoms(graph)])

    def test_limits(self):
        self.assertEqual(bottom_chances(explore(pair(), (121, 0))), [(1, 1)])
        with self.assertRaises(TooLarge) as caught:
            bottom_chances(explore(pair(), (122, 0)))
        self.assertEqual(caught.exception.limit, 120)

    def test_places_of_bottoms_do_not_count(self):
        protocol, place = row_of(120)
        graph = explore(protocol, place)
        self.assertEqual([len(graph), bottom_chances(graph)], [121, [(1, 1)]])
        protocol, place = row_of(121)
        with self.assertRaises(TooLarge):
            bottom_chances(explore(protocol, place))
        great = plain(["a", "b"], [("a", "a", "a", "b"), ("a", "b", "a", "a")])
        self.assertEqual(bottom_chances(explore(great, (500, 0))), [(1, 1)])

    def test_many_bottoms(self):
        states = ["a", "b"] + [f"s{number}" for number in range(30)]
        rules = [("a", "b", "s0", "s0"), ("b", "a", "s29", "s29")]
        rules += [(state, state, state, "s" + str((7 * number) % 30)) for number, state in enumerate(states[2:])]
        graph = explore(plain(states, rules), (2, 2, *[0] * 30))
        self.assertEqual(bottom_chances(graph), [told(chance) for chance in naive_bottoms(graph)])


class ExpectedTest(unittest.TestCase):
    def test_document(self):
        self.assertEqual(expected_meetings(explore(pair(), (3, 0))), (4, 1))

    def test_nothing_is_due(self):
        for protocol, place in [(pair(), (0, 0)), (pair(), (1, 0)), (pair(), (1, 4)), (EMPTY, ())]:
            self.assertEqual(expected_meetings(explore(protocol, place)), (0, 1))
        protocol = plain(["a", "b"], [("a", "a", "a", "b"), ("a", "b", "a", "a")])
        self.assertEqual(expected_meetings(explore(protocol, (5, 0))), (0, 1))

    def test_whole_numbers_and_others(self):
        # With k agents in "x" the next one is left after n (n - 1) / (k (k - 1)) meetings in the mean.
        for many in range(2, 8):
            share = sum([Fraction(many * (many - 1), left * (left - 1)) for left in range(2, many + 1)])
            self.assertEqual(share, (many - 1) ** 2)
            self.assertEqual(expected_meetings(explore(pair(), (many, 0))), told(share))
        self.assertEqual(expected_meetings(explore(pair(), (2, 1))), (3, 1))
        self.assertEqual(expected_meetings(explore(pair(), (3, 1))), (8, 1))
        one_way = plain(["a", "b"], [("a", "b", "b", "b")])
        self.assertEqual(expected_meetings(explore(one_way, (1, 1))), (2, 1))
        self.assertEqual(expected_meetings(explore(one_way, (2, 1))), (6, 1))
        self.assertEqual(expected_meetings(explore(one_way, (3, 1))), (11, 1))
        twice = plain(["a", "b", "c"], [("a", "a", "b", "b"), ("a", "b", "b", "c"), ("b", "a", "c", "c")])
        self.assertEqual(expected_meetings(explore(twice, (3, 0, 0))), (5, 2))

    def test_meetings_that_change_nothing_count(self):
        idle = plain(["a", "b"], [("a", "a", "b", "b")])
        self.assertEqual(expected_meetings(explore(idle, (2, 0))), (1, 1))
        self.assertEqual(expected_meetings(explore(idle, (2, 1))), (3, 1))
        self.assertEqual(expected_meetings(explore(idle, (2, 2))), (6, 1))

    def test_drawn_protocols(self):
        halves = 0
        for seed in range(60):
            protocol = drawn_protocol(seed, 3 + seed % 2)
            for place in [(3,) + (0,) * (len(protocol) - 1), (2, 1, 1) + (0,) * (len(protocol) - 3)]:
                graph = explore(protocol, place)
                found = expected_meetings(graph)
                self.assertEqual(found, told(naive_expected(graph)), seed)
                halves += found[1] > 1
        self.assertGreater(halves, 20)

    def test_limits(self):
        self.assertEqual(expected_meetings(explore(pair(), (121, 0))), (14400, 1))
        with self.assertRaises(TooLarge) as caught:
            expected_meetings(explore(pair(), (122, 0)))
        self.assertEqual(caught.exception.limit, 120)
        protocol, place = row_of(120)
        self.assertEqual(expected_meetings(explore(protocol, place)), (240, 1))
        protocol, place = row_of(121)
        with self.assertRaises(TooLarge):
            expected_meetings(explore(protocol, place))

    def test_120_places_that_all_lead_to_each_other(self):
        draw = random.Random(5)
        states = ["z"] + [f"s{number}" for number in range(121)]
        rules = []
        for number in range(120):
            rules.append((f"s{number}", "z", f"s{(number + 1) % 120}", "z"))
            rules.append(("z", f"s{number}", "z", f"s{draw.randrange(120)}"))
        rules[-1] = ("z", "s119", "z", "s120")
        graph = explore(plain(states, rules), (1, 1, *[0] * 120))
        self.assertEqual([len(graph), len(bottoms(graph))], [121, 1])
        self.assertEqual(expected_meetings(graph), told(naive_expected(graph)))
        self.assertEqual(bottom_chances(graph), [(1, 1)])


if __name__ == "__main__":
    unittest.main()

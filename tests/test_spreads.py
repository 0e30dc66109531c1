"""Points 52 and 53: spreads, and what comes from them."""

import random
import unittest
from fractions import Fraction

from mingle.bottoms import bottoms
from mingle.chances import bottom_chances, expected_meetings, step_chances
from mingle.checking import is_right
from mingle.graphs import explore
from mingle.places import total_output
from mingle.protocols import Rulebook
from mingle.spreads import mean_total, meetings_until, right_chance, spread
from samples import drawn_protocol, majority, names, pair, plain

EMPTY = Rulebook([], [], [], [], [])


def written(number):
    return (number.numerator, number.denominator)


def naive_spread(graph, count):
    """The chances of point 52, meeting by meeting, as a dict."""
    chances = {0: Fraction(1)}
    for _ in range(count):
        following = {}
        for number, chance in chances.items():
            for place, step in step_chances(graph.protocol, graph.place(number)):
                to = graph.number_of(place)
                following[to] = following.get(to, 0) + chance * Fraction(*step)
        chances = following
    return chances


def weighed(graph, count, worth):
    chances = naive_spread(graph, count)
    return written(sum([chance * worth(graph.place(number)) for number, chance in chances.items()], Fraction(0)))


def drawn_graphs(many):
    for seed in range(many):
        draw = random.Random(seed)
        states = 2 + seed % 3
        protocol = drawn_protocol(seed, states)
        yield explore(protocol, tuple([draw.randint(0, 2) for _ in range(states)]))


class SpreadTest(unittest.TestCase):
    def test_document(self):
        self.assertEqual(spread(explore(pair(), (3, 0)), 2), [(1, (2, 3)), (2, (1, 3))])

    def test_no_meeting(self):
        self.assertEqual(spread(explore(pair(), (3, 0)), 0), [(0, (1, 1))])
        self.assertEqual(spread(explore(majority(), (2, 1, 0, 0)), 0), [(0, (1, 1))])

    def test_meetings_one_by_one(self):
        graph = explore(pair(), (3, 0))
        self.assertEqual(spread(graph, 1), [(1, (1, 1))])
        self.assertEqual(spread(graph, 3), [(1, (4, 9)), (2, (5, 9))])
        self.assertEqual(spread(graph, 4), [(1, (8, 27)), (2, (19, 27))])

    def test_first_place_in_a_bottom(self):
        for count in [0, 1, 7, 200]:
            self.assertEqual(spread(explore(pair(), (1, 2)), count), [(0, (1, 1))])

    def test_fewer_than_two_agents(self):
        # An agent alone has nobody to meet, whatever the rules are.
        for place in [(0, 0), (1, 0), (0, 1)]:
            for count in [0, 1, 200]:
                self.assertEqual(spread(explore(pair(), place), count), [(0, (1, 1))])
        self.assertEqual(spread(explore(EMPTY, ()), 3), [(0, (1, 1))])

    def test_places_that_are_left_again(self):
        # Each meeting leads to the other place.
        graph = explore(plain("ab", ["aabb", "bbaa"]), (2, 0))
        self.assertEqual([spread(graph, count) for count in range(4)],
                         [[(0, (1, 1))], [(1, (1, 1))], [(0, (1, 1))], [(1, (1, 1))]])
        graph = explore(plain("abc", ["aabb", "bbca", "abba"]), (2, 0, 0))
        self.assertEqual(spread(graph, 1), [(1, (1, 1))])
        self.assertEqual(spread(graph, 2), [(2, (1, 1))])

    def test_order_of_the_numbers(self):
        graph = explore(majority(), (3, 2, 0, 0))
        for count in range(12):
            found = [number for number, _ in spread(graph, count)]
            self.assertEqual(found, sorted(set(found)))
        # Places that were reached late have smaller numbers, too.
        rules = ["adbd", "bdcd", "cdad"]
        graph = explore(plain("abcd", rules), (1, 0, 0, 1))
        self.assertEqual(spread(graph, 1), [(0, (1, 2)), (1, (1, 2))])
        self.assertEqual(spread(graph, 3), [(0, (1, 4)), (1, (3, 8)), (2, (3, 8))])

    def test_drawn_graphs(self):
        for graph in drawn_graphs(40):
            for count in [0, 1, 2, 5]:
                found = spread(graph, count)
                expected = naive_spread(graph, count)
                self.assertEqual(found, [(number, written(expected[number])) for number in sorted(expected)])
                self.assertEqual(sum([Fraction(*chance) for _, chance in found]), 1)
                self.assertTrue(all(chance[0] > 0 for _, chance in found))

    def test_200_meetings(self):
        graph = explore(majority(), (4, 3, 0, 0))
        found = spread(graph, 200)
        self.assertEqual(sum([Fraction(*chance) for _, chance in found]), 1)
        expected = naive_spread(graph, 200)
        self.assertEqual(found, [(number, written(expected[number])) for number in sorted(expected)])

    def test_great_counts(self):
        great = 10 ** 20
        protocol = plain("ab", ["abbb"])
        graph = explore(protocol, (1, great))
        self.assertEqual(spread(graph, 1), [(0, written(1 - Fraction(1, great + 1))), (1, (1, great + 1))])
        self.assertEqual(spread(explore(plain("ab"), (great, great)), 3), [(0, (1, 1))])

    def test_many_places(self):
        protocol = plain(names(4), [(f"s{number}", f"s{number}", f"s{number}", f"s{number + 1}") for number in range(3)])
        graph = explore(protocol, (14, 0, 0, 0))
        self.assertGreater(len(graph), 300)
        found = spread(graph, 30)
        self.assertEqual(sum([Fraction(*chance) for _, chance in found]), 1)

    def test_lists_are_new(self):
        graph = explore(pair(), (3, 0))
        spread(graph, 2).clear()
        self.assertEqual(spread(graph, 2), [(1, (2, 3)), (2, (1, 3))])


class RightChanceTest(unittest.TestCase):
    def test_totals(self):
        graph = explore(pair(), (3, 0))
        self.assertEqual([right_chance(graph, ("total", 1), count) for count in range(5)],
                         [(0, 1), (0, 1), (1, 3), (5, 9), (19, 27)])
        self.assertEqual([right_chance(graph, ("total", 2), count) for count in range(4)],
                         [(0, 1), (1, 1), (2, 3), (4, 9)])
        self.assertEqual([right_chance(graph, ("total", 3), count) for count in range(2)], [(1, 1), (0, 1)])
        self.assertEqual(right_chance(graph, ("total", 4), 1), (0, 1))

    def test_answers(self):
        graph = explore(pair(), (3, 0))
        self.assertEqual(right_chance(graph, ("answer", 1), 0), (1, 1))
        self.assertEqual(right_chance(graph, ("answer", 1), 1), (0, 1))
        self.assertEqual(right_chance(graph, ("answer", 0), 0), (0, 1))
        graph = explore(majority(), (2, 1, 0, 0))
        self.assertEqual(right_chance(graph, ("answer", 1), 1), (0, 1))
        self.assertEqual(right_chance(graph, ("answer", 1), 3), (1, 27))
        self.assertEqual(right_chance(graph, ("answer", 7), 3), (0, 1))

    def test_places_without_agents(self):
        graph = explore(pair(), (0, 0))
        for count in [0, 1, 5]:
            for number in [0, 1, 7]:
                self.assertEqual(right_chance(graph, ("answer", number), count), (1, 1))
            self.assertEqual(right_chance(graph, ("total", 0), count), (1, 1))
            self.assertEqual(right_chance(graph, ("total", 1), count), (0, 1))

    def test_drawn_graphs(self):
        goals = [("answer", 0), ("answer", 5), ("total", 4), ("total", 9), ("total", 14)]
        told = set()
        for graph in drawn_graphs(40):
            goals.append(("total", total_output(graph.protocol, graph.place(len(graph) - 1))))
            for count in [0, 1, 4]:
                for goal in goals:
                    found = right_chance(graph, goal, count)
                    told.add(found)
                    expected = weighed(graph, count, lambda place: int(is_right(graph.protocol, place, goal)))
                    self.assertEqual(found, expected)
            goals.pop()
        self.assertGreater(len(told), 10)


class MeanTotalTest(unittest.TestCase):
    def test_pair(self):
        graph = explore(pair(), (3, 0))
        self.assertEqual([mean_total(graph, count) for count in range(5)],
                         [(3, 1), (2, 1), (5, 3), (13, 9), (35, 27)])

    def test_no_agent_and_one(self):
        self.assertEqual(mean_total(explore(pair(), (0, 0)), 4), (0, 1))
        self.assertEqual(mean_total(explore(pair(), (1, 0)), 4), (1, 1))
        self.assertEqual(mean_total(explore(pair(), (0, 1)), 4), (0, 1))

    def test_drawn_graphs(self):
        for graph in drawn_graphs(40):
            for count in [0, 1, 4]:
                expected = weighed(graph, count, lambda place: total_output(graph.protocol, place))
                self.assertEqual(mean_total(graph, count), expected)


class UntilTest(unittest.TestCase):
    def test_pair(self):
        # The chances to be in the bottom are 0, 0, 1/3, 5/9, 19/27 and so on.
        graph = explore(pair(), (3, 0))
        self.assertEqual(meetings_until(graph, (1, 4), 200), 2)
        self.assertEqual(meetings_until(graph, (1, 2), 200), 3)
        self.assertEqual(meetings_until(graph, (2, 3), 200), 4)

    def test_a_fraction_that_is_reached_exactly(self):
        graph = explore(pair(), (3, 0))
        for chance, expected in [((1, 3), 2), ((5, 9), 3), ((19, 27), 4), ((333334, 1000000), 3),
                                 ((333333, 1000000), 2), ((50, 90), 3), ((501, 900), 4)]:
            self.assertEqual(meetings_until(graph, chance, 200), expected)

    def test_the_fractions_0_and_1(self):
        graph = explore(pair(), (3, 0))
        self.assertEqual(meetings_until(graph, (0, 1), 200), 0)
        self.assertEqual(meetings_until(graph, (0, 1), 0), 0)
        self.assertIsNone(meetings_until(graph, (1, 1), 200))
        self.assertEqual(meetings_until(explore(pair(), (2, 0)), (1, 1), 200), 1)

    def test_fractions_beyond_0_and_1(self):
        graph = explore(pair(), (2, 0))
        self.assertEqual(meetings_until(graph, (-1, 2), 10), 0)
        self.assertIsNone(meetings_until(graph, (3, 2), 200))

    def test_greatest_numbers(self):
        graph = explore(pair(), (3, 0))
        self.assertEqual(meetings_until(graph, (5, 9), 3), 3)
        self.assertIsNone(meetings_until(graph, (5, 9), 2))
        self.assertIsNone(meetings_until(graph, (5, 9), 0))
        self.assertIsNone(meetings_until(graph, (1, 1000), 1))
        self.assertEqual(meetings_until(graph, (1, 1000), 2), 2)

    def test_first_place_in_a_bottom(self):
        for place in [(1, 2), (0, 0), (1, 0), (0, 3)]:
            self.assertEqual(meetings_until(explore(pair(), place), (1, 1), 0), 0)
        self.assertEqual(meetings_until(explore(plain("ab", ["aabb", "bbaa"]), (2, 0)), (1, 1), 5), 0)
        self.assertEqual(meetings_until(explore(EMPTY, ()), (1, 1), 0), 0)

    def test_several_bottoms_with_several_places(self):
        graph = explore(plain("abcde", ["abcc", "badd", "ccee", "eecc", "cacc", "acca"]), (2, 1, 0, 0, 0))
        self.assertEqual(sorted([len(region) for region in bottoms(graph)]), [1, 2])
        self.check(graph)

    def check(self, graph):
        inside = {number for region in bottoms(graph) for number in region}
        sums = []
        for count in range(9):
            chances = naive_spread(graph, count)
            sums.append(sum([chances[number] for number in chances if number in inside], Fraction(0)))
        self.assertEqual(sums, sorted(sums))
        for chance in [Fraction(1, 10), Fraction(1, 2), Fraction(9, 10), Fraction(1), sums[3], sums[8]]:
            expected = [count for count in range(9) if sums[count] >= chance]
            self.assertEqual(meetings_until(graph, written(chance), 8), expected[0] if expected else None)

    def test_drawn_graphs(self):
        for graph in drawn_graphs(60):
            self.check(graph)

    def test_against_the_chances_of_bottoms(self):
        # After many meetings the chances are near to those of point 39.
        for graph in drawn_graphs(20):
            chances = dict(spread(graph, 200))
            for region, chance in zip(bottoms(graph), bottom_chances(graph)):
                found = sum([Fraction(*chances.get(number, (0, 1))) for number in region])
                self.assertLessEqual(found, Fraction(*chance))
                if Fraction(*expected_meetings(graph)) < 10:
                    self.assertLess(Fraction(*chance) - found, Fraction(1, 100))


if __name__ == "__main__":
    unittest.main()

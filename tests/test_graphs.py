"""Point 9: the graph of all places that can be reached."""

import random
import unittest

from mingle.errors import TooLarge, WrongCounts
from mingle.graphs import Graph, explore
from mingle.places import after, meetings, run, successors
from mingle.protocols import Rulebook
from samples import drawn_protocol, majority, names, pair, plain


def places_of(graph):
    return [graph.place(number) for number in range(len(graph))]


def spreading():
    """Its places are found in another order than the ascending one."""
    return plain(["a", "b", "c"], [("a", "a", "b", "c"), ("b", "c", "a", "c"), ("b", "b", "c", "b")])


class GraphTest(unittest.TestCase):
    def test_document(self):
        graph = explore(pair(), (3, 0))
        self.assertEqual([len(graph), graph.place(2), graph.way_to(2)], [3, (1, 2), [(0, 0), (0, 0)]])

    def test_protocol(self):
        protocol = pair()
        self.assertIs(explore(protocol, (3, 0)).protocol, protocol)

    def test_methods_stand_in_the_class(self):
        for name in ["__len__", "place", "number_of", "steps", "way_to"]:
            self.assertIn(name, vars(Graph))

    def test_numbering(self):
        graph = explore(spreading(), (3, 0, 0))
        self.assertEqual(places_of(graph), [(3, 0, 0), (1, 1, 1), (2, 0, 1), (0, 1, 2), (1, 0, 2)])

    def test_numbering_by_rounds(self):
        graph = explore(majority(), (2, 2, 0, 0))
        self.assertEqual(
            places_of(graph),
            [(2, 2, 0, 0), (1, 1, 2, 0), (0, 0, 4, 0), (1, 1, 1, 1), (0, 0, 3, 1), (1, 1, 0, 2), (0, 0, 2, 2)],
        )

    def test_steps_ascending(self):
        graph = explore(spreading(), (3, 0, 0))
        self.assertEqual([graph.steps(number) for number in range(5)], [[1], [2], [3], [4], []])
        graph = explore(majority(), (2, 2, 0, 0))
        self.assertEqual(
            [graph.steps(number) for number in range(7)], [[1], [2, 3], [], [1, 4, 5], [], [3, 6], []]
        )

    def test_a_step_back_to_an_earlier_place_stands_first(self):
        protocol = plain(["a", "b", "c"], [("a", "b", "b", "b"), ("b", "b", "b", "a"), ("b", "c", "c", "c")])
        graph = explore(protocol, (0, 2, 1))
        self.assertEqual(places_of(graph), [(0, 2, 1), (0, 1, 2), (1, 1, 1), (0, 0, 3), (1, 0, 2)])
        self.assertEqual([graph.steps(number) for number in range(5)], [[1, 2], [3], [0, 4], [], []])

    def test_no_step_to_the_place_itself(self):
        protocol = plain(["a", "b"], [("a", "b", "b", "a")])
        graph = explore(protocol, (1, 1))
        self.assertEqual([len(graph), graph.steps(0)], [1, []])

    def test_number_of(self):
        graph = explore(pair(), (3, 0))
        self.assertEqual([graph.number_of(place) for place in [(3, 0), (2, 1), (1, 2)]], [0, 1, 2])
        for place in [(0, 3), (4, 0), (2, 0), (), (3,), (3, 0, 0), (-1, 4)]:
            self.assertIsNone(graph.number_of(place))

    def test_fewer_than_two_agents(self):
        for place in [(0, 0), (1, 0), (0, 1)]:
            graph = explore(pair(), place)
            self.assertEqual([len(graph), graph.place(0), graph.steps(0), graph.way_to(0)], [1, place, [], []])

    def test_protocol_without_states(self):
        graph = explore(Rulebook([], [], [], [], []), ())
        self.assertEqual([len(graph), graph.place(0), graph.steps(0)], [1, (), []])

    def test_great_counts(self):
        great = 10**30 - 1
        protocol = plain(["a", "b", "c"], [("a", "b", "a", "c")])
        graph = explore(protocol, (great, 3, great))
        self.assertEqual(places_of(graph), [(great, 3 - gone, great + gone) for gone in range(4)])

    def test_lists_are_new(self):
        graph = explore(pair(), (3, 0))
        graph.steps(0).append(7)
        graph.way_to(2).append((1, 1))
        self.assertEqual([graph.steps(0), graph.way_to(2)], [[1], [(0, 0), (0, 0)]])


class LimitTest(unittest.TestCase):
    def test_reached_and_passed(self):
        self.assertEqual(len(explore(pair(), (3, 0), limit=3)), 3)
        for limit in [1, 2]:
            with self.assertRaises(TooLarge) as caught:
                explore(pair(), (3, 0), limit=limit)
            self.assertEqual(caught.exception.limit, limit)

    def test_a_single_place(self):
        self.assertEqual(len(explore(pair(), (1, 0), limit=1)), 1)

    def test_the_usual_limit(self):
        self.assertEqual(len(explore(pair(), (2000, 0))), 2000)
        with self.assertRaises(TooLarge) as caught:
            explore(pair(), (2001, 0))
        self.assertEqual(caught.exception.limit, 2000)

    def test_a_greater_limit(self):
        graph = explore(pair(), (2500, 0), limit=2500)
        self.assertEqual([len(graph), graph.way_to(2499)], [2500, [(0, 0)] * 2499])

    def test_limit_passed_in_the_middle_of_a_place(self):
        protocol = plain(names(4), [("s0", "s0", "s0", "s1"), ("s0", "s1", "s0", "s2"), ("s1", "s0", "s3", "s0")])
        whole = len(explore(protocol, (3, 1, 0, 0)))
        for limit in range(1, whole):
            with self.assertRaises(TooLarge):
                explore(protocol, (3, 1, 0, 0), limit=limit)
        self.assertEqual(len(explore(protocol, (3, 1, 0, 0), limit=whole)), whole)

    def test_places_that_do_not_fit(self):
        for place in [(), (1,), (1, 2, 3), (-1, 2), (2, -1), (5000, -1)]:
            with self.assertRaises(WrongCounts):
                explore(pair(), place, limit=1)

    def test_limit_is_passed_by_keyword(self):
        with self.assertRaises(TypeError):
            explore(pair(), (3, 0), 3)


class WaysTest(unittest.TestCase):
    def test_the_smallest_meeting_of_several(self):
        rules = [("b", "a", "c", "c"), ("a", "b", "c", "c"), ("a", "a", "a", "a")]
        graph = explore(plain(["a", "b", "c"], rules), (2, 2, 0))
        self.assertEqual(graph.way_to(1), [(0, 1)])
        self.assertEqual(graph.way_to(2), [(0, 1), (0, 1)])

    def test_meetings_that_change_nothing_are_left_out(self):
        rules = [("a", "a", "a", "a"), ("a", "b", "b", "a"), ("b", "a", "c", "a")]
        graph = explore(plain(["a", "b", "c"], rules), (2, 1, 0))
        self.assertEqual(graph.way_to(1), [(1, 0)])

    def test_the_place_of_discovery_decides(self):
        # The last place can be reached from both others; the one with the smaller number finds it.
        rules = [("d", "a", "d", "b"), ("d", "b", "d", "c"), ("a", "d", "c", "d")]
        graph = explore(plain(["a", "b", "c", "d"], rules), (1, 0, 0, 1))
        self.assertEqual(places_of(graph), [(1, 0, 0, 1), (0, 0, 1, 1), (0, 1, 0, 1)])
        self.assertEqual([graph.way_to(number) for number in range(3)], [[], [(0, 3)], [(3, 0)]])

    def test_against_a_plain_search(self):
        for seed in range(40):
            protocol = drawn_protocol(seed, 2 + seed % 4)
            draw = random.Random(seed)
            first = tuple(draw.randrange(3) for _ in range(len(protocol)))
            self.check_graph(protocol, first, explore(protocol, first))

    def check_graph(self, protocol, first, graph):
        places, ways = [first], {first: []}
        for place in places:
            for following in successors(protocol, place):
                if following not in ways:
                    leading = [one for one in meetings(protocol, place) if after(protocol, place, one) == following]
                    ways[following] = ways[place] + [min(leading)]
                    places.append(following)
        self.assertEqual(places_of(graph), places)
        for number, place in enumerate(places):
            self.assertEqual(graph.number_of(place), number)
            self.assertEqual(graph.way_to(number), ways[place])
            self.assertEqual(run(protocol, first, graph.way_to(number)), place)
            following = successors(protocol, place)
            self.assertEqual(graph.steps(number), sorted([places.index(one) for one in following]))


if __name__ == "__main__":
    unittest.main()

"""Points 10 and 11: components, bottoms, and from where places can be reached."""

import random
import unittest

from mingle.bottoms import bottoms, can_reach, components
from mingle.graphs import explore
from mingle.places import outputs_in
from mingle.protocols import Rulebook
from samples import drawn_protocol, majority, pair, plain


def reached_from(graph, number):
    """All numbers that can be reached, found in the plainest way."""
    reached = {number}
    waiting = [number]
    while waiting:
        for following in graph.steps(waiting.pop()):
            if following not in reached:
                reached.add(following)
                waiting.append(following)
    return reached


def looping():
    """From (2, 0, 0, 0): a place that is left for good, then a round of two, or of one, that is never left."""
    rules = [("a", "a", "b", "b"), ("b", "b", "b", "c"), ("b", "c", "b", "b"), ("c", "b", "d", "d")]
    return plain(["a", "b", "c", "d"], rules)


class BottomsTest(unittest.TestCase):
    def test_document(self):
        graph = explore(pair(), (3, 0))
        told = [len(graph), graph.place(2), graph.way_to(2), bottoms(graph)]
        self.assertEqual(told, [3, (1, 2), [(0, 0), (0, 0)], [[2]]])

    def test_one_place(self):
        empty = Rulebook([], [], [], [], [])
        for protocol, place in [(pair(), (0, 0)), (pair(), (1, 0)), (pair(), (0, 5)), (empty, ())]:
            graph = explore(protocol, place)
            self.assertEqual([components(graph), bottoms(graph)], [[[0]], [[0]]])

    def test_components_that_are_not_closed(self):
        graph = explore(looping(), (2, 0, 0, 0))
        self.assertEqual([graph.place(n) for n in range(4)], [(2, 0, 0, 0), (0, 2, 0, 0), (0, 1, 1, 0), (0, 0, 0, 2)])
        self.assertEqual(components(graph), [[0], [1, 2], [3]])
        self.assertEqual(bottoms(graph), [[3]])

    def test_a_bottom_of_several_places(self):
        protocol = plain(["a", "b", "c"], [("a", "a", "b", "b"), ("b", "b", "b", "c"), ("b", "c", "b", "b")])
        graph = explore(protocol, (2, 0, 0))
        self.assertEqual(components(graph), [[0], [1, 2]])
        self.assertEqual(bottoms(graph), [[1, 2]])

    def test_the_whole_graph_is_a_bottom(self):
        graph = explore(plain(["a", "b"], [("a", "a", "a", "b"), ("a", "b", "a", "a")]), (3, 0))
        self.assertEqual([components(graph), bottoms(graph)], [[[0, 1, 2]], [[0, 1, 2]]])

    def test_several_bottoms_in_the_order_of_their_first_numbers(self):
        rules = [("a", "a", "b", "c"), ("b", "c", "d", "d"), ("c", "b", "e", "e"), ("d", "d", "d", "f"),
                 ("d", "f", "d", "d")]
        graph = explore(plain(list("abcdef"), rules), (2, 0, 0, 0, 0, 0))
        places = [(2, 0, 0, 0, 0, 0), (0, 1, 1, 0, 0, 0), (0, 0, 0, 0, 2, 0), (0, 0, 0, 2, 0, 0), (0, 0, 0, 1, 0, 1)]
        self.assertEqual([graph.place(number) for number in range(5)], places)
        self.assertEqual(components(graph), [[0], [1], [2], [3, 4]])
        self.assertEqual(bottoms(graph), [[2], [3, 4]])

    def test_a_component_whose_numbers_do_not_follow_each_other(self):
        graph = explore(majority(), (2, 2, 0, 0))
        self.assertEqual(components(graph), [[0], [1, 3, 5], [2], [4], [6]])
        self.assertEqual(bottoms(graph), [[2], [4], [6]])

    def test_components_by_reaching(self):
        for seed in range(60):
            graph = explore(drawn_protocol(seed, 3 + seed % 3), (4,) + (0,) * (2 + seed % 3))
            reached = [reached_from(graph, number) for number in range(len(graph))]
            expected = []
            for number in range(len(graph)):
                region = [other for other in sorted(reached[number]) if number in reached[other]]
                if region[0] == number:
                    expected.append(region)
            self.assertEqual(components(graph), expected, seed)
            closed = [region for region in expected if reached[region[0]] == set(region)]
            self.assertEqual(bottoms(graph), closed, seed)
            self.assertTrue(closed)
            for targets in [[0], [len(graph) - 1], [len(graph) // 2, 0], [len(graph) // 3, len(graph) // 2]]:
                sources = [number for number in range(len(graph)) if reached[number] & set(targets)]
                self.assertEqual(can_reach(graph, targets), sources, seed)

    def test_a_long_way(self):
        graph = explore(pair(), (3000, 0), limit=3000)
        self.assertEqual(components(graph), [[number] for number in range(3000)])
        self.assertEqual(bottoms(graph), [[2999]])
        self.assertEqual(can_reach(graph, [2999]), list(range(3000)))

    def test_a_great_component(self):
        graph = explore(plain(["a", "b"], [("a", "a", "a", "b"), ("a", "b", "a", "a")]), (1500, 0))
        self.assertEqual(bottoms(graph), [list(range(1500))])

    def test_returned_lists_are_new(self):
        graph = explore(pair(), (3, 0))
        for function in [components, bottoms]:
            function(graph)[0].append(7)
            function(graph).append([8])
        can_reach(graph, [1]).append(9)
        self.assertEqual([components(graph), bottoms(graph), can_reach(graph, [1])], [[[0], [1], [2]], [[2]], [0, 1]])


class CanReachTest(unittest.TestCase):
    def setUp(self):
        self.graph = explore(looping(), (2, 0, 0, 0))

    def test_no_places(self):
        self.assertEqual(can_reach(self.graph, []), [])

    def test_one_place(self):
        for number, expected in [(0, [0]), (1, [0, 1, 2]), (2, [0, 1, 2]), (3, [0, 1, 2, 3])]:
            self.assertEqual(can_reach(self.graph, [number]), expected)

    def test_a_number_given_twice(self):
        self.assertEqual(can_reach(self.graph, [2, 2]), [0, 1, 2])
        self.assertEqual(can_reach(self.graph, [0, 0, 0]), [0])

    def test_places_of_different_components(self):
        self.assertEqual(can_reach(self.graph, [3, 0]), [0, 1, 2, 3])
        self.assertEqual(can_reach(self.graph, [2, 0]), [0, 1, 2])
        graph = explore(majority(), (2, 2, 0, 0))
        self.assertEqual(can_reach(graph, [2]), [0, 1, 2, 3, 5])
        self.assertEqual(can_reach(graph, [4]), [0, 1, 3, 4, 5])
        self.assertEqual(can_reach(graph, [4, 2]), [0, 1, 2, 3, 4, 5])

    def test_the_list_stays_as_it_is(self):
        numbers = [3, 1, 3]
        can_reach(self.graph, numbers)
        self.assertEqual(numbers, [3, 1, 3])


class FairOrderTest(unittest.TestCase):
    """What holds in all bottoms holds in the end."""

    def test_majority(self):
        for first in range(5):
            for second in range(5):
                graph = explore(majority(), (first, second, 0, 0))
                for region in bottoms(graph):
                    found = [outputs_in(graph.protocol, graph.place(number)) for number in region]
                    if first > second:
                        self.assertEqual(found, [[1]] * len(region))

    def test_meetings_at_random_enter_a_bottom_and_never_leave_it(self):
        draw = random.Random(5)
        for seed in range(10):
            graph = explore(drawn_protocol(seed, 4), (4, 0, 0, 0))
            inside = {number: at for at, region in enumerate(bottoms(graph)) for number in region}
            here = 0
            for _ in range(2000):
                steps = graph.steps(here)
                if steps:
                    following = draw.choice(steps)
                    self.assertEqual(inside.get(here, inside.get(following)), inside.get(following))
                    here = following
            self.assertIn(here, inside)

    def test_nothing_happens_to_fewer_than_two_agents(self):
        for many in range(2):
            for at in range(4):
                place = [0] * 4
                place[at] = many
                self.assertEqual(bottoms(explore(majority(), tuple(place))), [[0]])


if __name__ == "__main__":
    unittest.main()

"""Point 41: crowds and schedules."""

import copy
import random
import unittest

from mingle.crowds import crowd_of, follow, place_of, schedule_for
from mingle.errors import NotAgents, NotPossible
from mingle.places import meetings, run
from mingle.protocols import Rulebook
from samples import drawn_protocol, majority, pair, plain

EMPTY = Rulebook([], [], [], [], [])


def naive_pair(crowd, meeting):
    """The smallest pair of different agents in these states, or None."""
    pairs = [
        (first, second) for first in range(len(crowd)) for second in range(len(crowd))
        if first != second and (crowd[first], crowd[second]) == meeting
    ]
    return min(pairs, default=None)


class PlaceTest(unittest.TestCase):
    def test_crowd_of(self):
        self.assertEqual(crowd_of(()), [])
        self.assertEqual(crowd_of((0, 0)), [])
        self.assertEqual(crowd_of((3, 0)), [0, 0, 0])
        self.assertEqual(crowd_of((0, 1)), [1])
        self.assertEqual(crowd_of((2, 0, 1, 3)), [0, 0, 2, 3, 3, 3])

    def test_place_of(self):
        self.assertEqual(place_of(EMPTY, []), ())
        self.assertEqual(place_of(pair(), []), (0, 0))
        self.assertEqual(place_of(pair(), [1, 0, 1]), (1, 2))
        self.assertEqual(place_of(majority(), [3, 0, 3, 3, 1]), (1, 1, 0, 3))
        self.assertIsInstance(place_of(pair(), [1]), tuple)

    def test_one_after_the_other(self):
        draw = random.Random(1)
        for _ in range(50):
            place = tuple([draw.randint(0, 3) for _ in range(4)])
            crowd = crowd_of(place)
            self.assertEqual(crowd, sorted(crowd))
            draw.shuffle(crowd)
            self.assertEqual(place_of(majority(), crowd), place)

    def test_the_crowd_stays_as_it_is(self):
        crowd = [1, 0, 1]
        place_of(pair(), crowd)
        self.assertEqual(crowd, [1, 0, 1])


class FollowTest(unittest.TestCase):
    def test_no_meeting(self):
        for crowd in [[], [0], [1, 0, 0]]:
            found = follow(pair(), crowd, [])
            self.assertEqual(found, crowd)
            found.append(7)
            self.assertNotEqual(found, crowd)

    def test_meetings(self):
        self.assertEqual(follow(pair(), [0, 0, 0], [(0, 1)]), [0, 1, 0])
        self.assertEqual(follow(pair(), [0, 0, 0], [(1, 0)]), [1, 0, 0])
        self.assertEqual(follow(pair(), [0, 0, 0], [(2, 0), (1, 2)]), [1, 0, 1])
        self.assertEqual(follow(pair(), [0, 0, 0], [(2, 0), (2, 1), (0, 1), (1, 0), (1, 2)]), [1, 1, 0])

    def test_the_order_of_the_two(self):
        protocol = plain(["a", "b", "c", "d"], [("a", "b", "c", "d")])
        self.assertEqual(follow(protocol, [0, 1], [(0, 1)]), [2, 3])
        self.assertEqual(follow(protocol, [0, 1], [(1, 0)]), [0, 1])
        self.assertEqual(follow(protocol, [1, 0], [(1, 0)]), [3, 2])

    def test_pairs_that_are_no_different_agents(self):
        for wrong in [(0, 0), (2, 2), (3, 3), (0, 3), (3, 0), (4, 9), (0, -1), (-1, 0), (-1, -2), (-3, 1), (-1, -1),
                      (1, 10 ** 29), (-(10 ** 29), 1)]:
            for index in range(4):
                schedule = [(0, 1), (1, 2), (2, 0)]
                schedule.insert(index, wrong)
                with self.assertRaises(NotAgents) as caught:
                    follow(pair(), [0, 0, 0], schedule)
                self.assertEqual(caught.exception.index, index)

    def test_the_first_of_several_wrong_pairs(self):
        for schedule, index in [([(0, 0), (5, 5)], 0), ([(0, 1), (0, 5), (1, 1)], 1), ([(1, 0), (0, 1), (-1, 0)], 2)]:
            with self.assertRaises(NotAgents) as caught:
                follow(pair(), [0, 0], schedule)
            self.assertEqual(caught.exception.index, index)

    def test_crowds_of_fewer_than_two(self):
        for crowd in [[], [0]]:
            for wrong in [(0, 1), (0, 0), (1, 0)]:
                with self.assertRaises(NotAgents) as caught:
                    follow(pair(), crowd, [wrong])
                self.assertEqual(caught.exception.index, 0)

    def test_lists_stay_as_they_are(self):
        crowd, schedule = [0, 0, 0], [(0, 1), (2, 0)]
        follow(pair(), crowd, schedule)
        self.assertEqual([crowd, schedule], [[0, 0, 0], [(0, 1), (2, 0)]])
        schedule.append((7, 7))
        with self.assertRaises(NotAgents):
            follow(pair(), crowd, schedule)
        self.assertEqual([crowd, schedule], [[0, 0, 0], [(0, 1), (2, 0), (7, 7)]])

    def test_crowds_go_where_their_places_go(self):
        draw = random.Random(2)
        for seed in range(30):
            protocol = drawn_protocol(seed, 4)
            crowd = [draw.randrange(4) for _ in range(5)]
            schedule = [tuple(draw.sample(range(5), 2)) for _ in range(8)]
            here, done = list(crowd), []
            for first, second in schedule:
                done.append((here[first], here[second]))
                here[first], here[second] = protocol.meet(here[first], here[second])
            self.assertEqual(follow(protocol, crowd, schedule), here)
            self.assertEqual(place_of(protocol, here), run(protocol, place_of(protocol, crowd), done))


class ScheduleTest(unittest.TestCase):
    def test_document(self):
        self.assertEqual(schedule_for(pair(), [0, 0, 0], [(0, 0), (0, 0)]), [(0, 1), (0, 2)])

    def test_the_empty_run(self):
        for crowd in [[], [0], [1, 0]]:
            self.assertEqual(schedule_for(pair(), crowd, []), [])

    def test_the_smallest_pairs(self):
        protocol = plain(["a", "b", "c"], [])
        crowd = [2, 1, 0, 1, 0, 2]
        for meeting, expected in [((0, 1), (2, 1)), ((1, 0), (1, 2)), ((0, 0), (2, 4)), ((1, 1), (1, 3)),
                                  ((2, 0), (0, 2)), ((2, 2), (0, 5)), ((1, 2), (1, 0))]:
            self.assertEqual(schedule_for(protocol, crowd, [meeting]), [expected])

    def test_two_agents_of_one_state(self):
        self.assertEqual(schedule_for(pair(), [1, 0, 1, 0, 0], [(0, 0), (0, 0)]), [(1, 3), (1, 4)])
        self.assertEqual(schedule_for(pair(), [1, 0, 1, 0, 0], [(1, 1), (1, 1)]), [(0, 2), (0, 2)])

    def test_meetings_that_change_nothing(self):
        run_of_four = [(0, 1), (1, 0), (0, 0), (1, 1)]
        self.assertEqual(schedule_for(pair(), [0, 1, 0], run_of_four), [(0, 1), (1, 0), (0, 2), (1, 2)])

    def test_meetings_that_are_not_possible(self):
        for crowd, told, index in [
            ([], [(0, 0)], 0), ([0], [(0, 0)], 0), ([0], [(0, 1)], 0), ([1], [(0, 1)], 0), ([0, 1], [(0, 0)], 0),
            ([0, 1], [(1, 1)], 0), ([0, 0], [(0, 1)], 0), ([0, 0], [(1, 0)], 0), ([0, 0], [(0, 0), (0, 0)], 1),
            ([0, 0, 0], [(0, 0), (0, 1), (0, 0), (1, 1), (0, 0), (7, 7)], 4),
            ([0, 0], [(0, 2)], 0), ([0, 0], [(2, 0)], 0), ([0, 0], [(0, 0), (-1, 0)], 1), ([0, 0], [(0, 0), (0, -1)], 1),
            ([0, 0], [(-2, -2)], 0), ([0, 0], [(0, 10 ** 29)], 0),
        ]:
            with self.assertRaises(NotPossible) as caught:
                schedule_for(pair(), crowd, told)
            self.assertEqual(caught.exception.index, index)

    def test_lists_stay_as_they_are(self):
        for told in [[(0, 0), (0, 0)], [(0, 0), (1, 1)]]:
            crowd, before = [0, 0, 0], copy.deepcopy(told)
            try:
                schedule_for(pair(), crowd, told)
            except NotPossible:
                pass
            self.assertEqual([crowd, told], [[0, 0, 0], before])

    def test_drawn_runs(self):
        draw = random.Random(3)
        for seed in range(60):
            protocol = drawn_protocol(seed, 4)
            crowd = [draw.randrange(4) for _ in range(6)]
            here, told, expected = list(crowd), [], []
            for _ in range(8):
                possible = meetings(protocol, place_of(protocol, here))
                if draw.random() < 0.3 or not possible:
                    meeting = tuple([here[agent] for agent in draw.sample(range(6), 2)])
                else:
                    meeting = draw.choice(possible)
                told.append(meeting)
                expected.append(naive_pair(here, meeting))
                first, second = expected[-1]
                here[first], here[second] = protocol.meet(*meeting)
            schedule = schedule_for(protocol, crowd, told)
            self.assertEqual(schedule, expected, seed)
            self.assertEqual(follow(protocol, crowd, schedule), here)
            self.assertEqual(place_of(protocol, here), run(protocol, place_of(protocol, crowd), told))


if __name__ == "__main__":
    unittest.main()

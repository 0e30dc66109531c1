"""Points 59, 60 and 61: exchanged meetings, layers, and the pasts and sources of agents."""

import random
import unittest

from mingle.crowds import follow
from mingle.layers import are_equivalent, flattened, layers, past_of, sources_of
from samples import drawn_protocol, majority

GREAT = 10 ** 29


def drawn_schedule(draw, agents, many):
    return [tuple(draw.sample(range(agents), 2)) for _ in range(many)]


def share(first, second):
    return bool(set(first) & set(second))


def exchanged(draw, schedule, many):
    """The schedule after so many tries to exchange two meetings side by side that have no agent in common."""
    found = list(schedule)
    for _ in range(many):
        at = draw.randrange(len(found) - 1)
        if not share(found[at], found[at + 1]):
            found[at], found[at + 1] = found[at + 1], found[at]
    return found


def all_equivalent(schedule):
    """All schedules that the schedule becomes by exchanges."""
    found = {tuple(schedule)}
    waiting = [tuple(schedule)]
    while waiting:
        here = waiting.pop()
        for at in range(len(here) - 1):
            if not share(here[at], here[at + 1]):
                other = here[:at] + (here[at + 1], here[at]) + here[at + 2:]
                if other not in found:
                    found.add(other)
                    waiting.append(other)
    return found


def naive_layers(schedule):
    rows = []
    for meeting in schedule:
        behind = [number for number, row in enumerate(rows) if any(share(meeting, other) for other in row)]
        layer = max(behind, default=-1) + 1
        if layer == len(rows):
            rows.append([])
        rows[layer].append(meeting)
    return [sorted(row) for row in rows]


def naive_past(schedule, agent):
    """The indexes from which a chain of meetings leads to one of the agent."""
    past = {index for index, meeting in enumerate(schedule) if agent in meeting}
    while True:
        further = {index for index, meeting in enumerate(schedule)
                   if any(index < later and share(meeting, schedule[later]) for later in past)}
        if further <= past:
            return sorted(past)
        past |= further


class LayersTest(unittest.TestCase):
    def layered(self, schedule, expected):
        before = list(schedule)
        self.assertEqual(layers(schedule), expected)
        self.assertEqual(naive_layers(schedule), expected)
        self.assertEqual(schedule, before)

    def test_document(self):
        self.layered([(0, 1), (2, 3), (1, 2), (4, 5), (0, 3)], [[(0, 1), (2, 3), (4, 5)], [(0, 3), (1, 2)]])

    def test_no_meeting_and_one(self):
        self.layered([], [])
        self.layered([(3, 1)], [[(3, 1)]])

    def test_a_pair_twice_and_in_both_orders(self):
        self.layered([(0, 1), (0, 1)], [[(0, 1)], [(0, 1)]])
        self.layered([(0, 1), (1, 0)], [[(0, 1)], [(1, 0)]])
        self.layered([(1, 0), (0, 1), (1, 0)], [[(1, 0)], [(0, 1)], [(1, 0)]])

    def test_order_within_a_layer(self):
        self.layered([(4, 5), (3, 2), (0, 1)], [[(0, 1), (3, 2), (4, 5)]])
        self.layered([(5, 0), (1, 4), (3, 2)], [[(1, 4), (3, 2), (5, 0)]])
        self.layered([(9, 8), (10, 7), (2, 1)], [[(2, 1), (9, 8), (10, 7)]])

    def test_each_agent_holds_up_a_meeting(self):
        self.layered([(0, 1), (1, 2), (2, 3), (3, 4)], [[(0, 1)], [(1, 2)], [(2, 3)], [(3, 4)]])
        self.layered([(0, 1), (2, 1), (3, 0)], [[(0, 1)], [(2, 1), (3, 0)]])
        self.layered([(0, 1), (0, 1), (2, 3), (3, 1)], [[(0, 1), (2, 3)], [(0, 1)], [(3, 1)]])
        self.layered([(0, 1), (0, 1), (2, 3), (1, 3)], [[(0, 1), (2, 3)], [(0, 1)], [(1, 3)]])
        # A meeting of others goes to the first layer, however late it stands.
        self.layered([(0, 1), (0, 1), (0, 1), (2, 3)], [[(0, 1), (2, 3)], [(0, 1)], [(0, 1)]])

    def test_great_numbers_of_agents(self):
        self.layered([(GREAT, 0), (GREAT - 1, 1), (GREAT, 1)], [[(GREAT - 1, 1), (GREAT, 0)], [(GREAT, 1)]])

    def test_drawn_schedules(self):
        draw = random.Random(1)
        for many in range(40):
            schedule = drawn_schedule(draw, 2 + many % 7, many)
            self.layered(schedule, naive_layers(schedule))
            for row in layers(schedule):
                self.assertEqual(len({agent for meeting in row for agent in meeting}), 2 * len(row))

    def test_lists_are_new(self):
        schedule = [(0, 1), (2, 3)]
        found = layers(schedule)
        found[0].append((4, 5))
        found.clear()
        self.assertEqual(layers(schedule), [[(0, 1), (2, 3)]])


class EquivalentTest(unittest.TestCase):
    def test_small_ones(self):
        self.assertIs(are_equivalent([], []), True)
        self.assertIs(are_equivalent([(0, 1)], [(0, 1)]), True)
        self.assertIs(are_equivalent([(0, 1), (2, 3)], [(2, 3), (0, 1)]), True)
        self.assertIs(are_equivalent([(0, 1)], [(1, 0)]), False)
        self.assertIs(are_equivalent([(0, 1)], []), False)
        self.assertIs(are_equivalent([(0, 1), (1, 2)], [(1, 2), (0, 1)]), False)
        self.assertIs(are_equivalent([(0, 1), (0, 1)], [(0, 1)]), False)
        self.assertIs(are_equivalent([(0, 1), (2, 3)], [(0, 1), (2, 4)]), False)

    def test_several_exchanges(self):
        schedule = [(0, 1), (2, 3), (4, 5), (0, 2), (6, 7)]
        self.assertIs(are_equivalent(schedule, [(6, 7), (4, 5), (2, 3), (0, 1), (0, 2)]), True)
        self.assertIs(are_equivalent(schedule, [(6, 7), (4, 5), (0, 2), (0, 1), (2, 3)]), False)
        self.assertIs(are_equivalent(schedule, [(6, 7), (4, 5), (2, 3), (0, 2), (0, 1)]), False)

    def test_against_all_exchanges(self):
        draw = random.Random(2)
        told = []
        for _ in range(150):
            schedule = drawn_schedule(draw, 5, 5)
            every = all_equivalent(schedule)
            for other in [exchanged(draw, schedule, 9), draw.sample(schedule, 5), [meeting[::-1] for meeting in schedule]]:
                expected = tuple(other) in every
                self.assertIs(are_equivalent(schedule, other), expected)
                self.assertIs(are_equivalent(other, schedule), expected)
                told.append(expected)
        self.assertGreater(min(told.count(True), told.count(False)), 100)

    def test_they_lead_to_the_same_crowd(self):
        draw = random.Random(3)
        for seed in range(60):
            protocol = drawn_protocol(seed, 4)
            schedule = drawn_schedule(draw, 6, 12)
            crowd = [draw.randrange(4) for _ in range(6)]
            other = exchanged(draw, schedule, 30)
            self.assertIs(are_equivalent(schedule, other), True)
            self.assertEqual(follow(protocol, crowd, schedule), follow(protocol, crowd, other))

    def test_lists_stay_as_they_are(self):
        first, second = [(2, 3), (0, 1)], [(0, 1), (2, 3)]
        are_equivalent(first, second)
        self.assertEqual([first, second], [[(2, 3), (0, 1)], [(0, 1), (2, 3)]])


class FlattenedTest(unittest.TestCase):
    def test_rows(self):
        self.assertEqual(flattened([]), [])
        self.assertEqual(flattened([[], []]), [])
        self.assertEqual(flattened([[(0, 1), (2, 3)], [], [(1, 2)]]), [(0, 1), (2, 3), (1, 2)])
        self.assertEqual(flattened([[(4, 5), (0, 1)], [(3, 2)]]), [(4, 5), (0, 1), (3, 2)])

    def test_layers_stay_equivalent(self):
        draw = random.Random(4)
        for many in range(40):
            schedule = drawn_schedule(draw, 2 + many % 6, many)
            found = flattened(layers(schedule))
            self.assertIs(are_equivalent(schedule, found), True)
            self.assertEqual(layers(found), layers(schedule))
            self.assertEqual(sorted(found), sorted(schedule))

    def test_lists_are_new(self):
        rows = [[(0, 1)]]
        flattened(rows).append((2, 3))
        self.assertEqual([rows, flattened(rows)], [[[(0, 1)]], [(0, 1)]])


class PastTest(unittest.TestCase):
    def traced(self, schedule, agent, past, sources):
        before = list(schedule)
        self.assertEqual(past_of(schedule, agent), past)
        self.assertEqual(naive_past(schedule, agent), past)
        self.assertEqual(sources_of(schedule, agent), sources)
        self.assertEqual(schedule, before)

    def test_document(self):
        self.traced([(0, 1), (2, 3), (1, 2)], 0, [0], [0, 1])

    def test_an_agent_that_never_meets(self):
        self.traced([], 3, [], [3])
        self.traced([(0, 1), (1, 2)], 3, [], [3])
        self.traced([(0, 1)], GREAT, [], [GREAT])

    def test_one_that_meets_first_and_one_that_meets_last(self):
        schedule = [(0, 1), (2, 3), (1, 2), (4, 5), (3, 4)]
        self.traced(schedule, 0, [0], [0, 1])
        self.traced(schedule, 1, [0, 1, 2], [0, 1, 2, 3])
        self.traced(schedule, 5, [3], [4, 5])
        self.traced(schedule, 3, [1, 3, 4], [2, 3, 4, 5])
        self.traced(schedule, 4, [1, 3, 4], [2, 3, 4, 5])

    def test_chains(self):
        chain = [(0, 1), (1, 2), (2, 3), (3, 4)]
        self.traced(chain, 4, [0, 1, 2, 3], [0, 1, 2, 3, 4])
        self.traced(chain, 2, [0, 1, 2], [0, 1, 2, 3])
        self.traced(chain, 0, [0], [0, 1])
        self.traced(chain[::-1], 4, [0], [3, 4])
        self.traced(chain[::-1], 0, [0, 1, 2, 3], [0, 1, 2, 3, 4])
        # The second agent of a meeting is traced as the first one.
        self.traced([(1, 0), (2, 1), (3, 2)], 3, [0, 1, 2], [0, 1, 2, 3])

    def test_meetings_that_come_too_late(self):
        self.traced([(0, 1), (1, 2), (2, 3), (1, 4)], 0, [0], [0, 1])
        self.traced([(2, 3), (0, 1), (1, 2), (0, 5)], 5, [1, 3], [0, 1, 5])

    def test_an_agent_that_meets_several_times(self):
        self.traced([(0, 1), (0, 1), (2, 3), (1, 0)], 1, [0, 1, 3], [0, 1])
        self.traced([(0, 1), (2, 3), (0, 2)], 0, [0, 1, 2], [0, 1, 2, 3])

    def test_great_numbers_of_agents(self):
        self.traced([(GREAT, 7), (1, 2), (7, 0)], 0, [0, 2], [0, 7, GREAT])

    def test_drawn_schedules(self):
        draw = random.Random(5)
        for many in range(60):
            agents = 3 + many % 6
            schedule = drawn_schedule(draw, agents, many % 13)
            for agent in range(agents + 1):
                past = naive_past(schedule, agent)
                sources = {agent} | {other for index in past for other in schedule[index]}
                self.traced(schedule, agent, past, sorted(sources))

    def test_the_past_alone_is_enough(self):
        draw = random.Random(6)
        for seed in range(60):
            protocol = majority() if seed == 0 else drawn_protocol(seed, 4)
            schedule = drawn_schedule(draw, 6, 8)
            crowd = [draw.randrange(4) for _ in range(6)]
            end = follow(protocol, crowd, schedule)
            for agent in range(6):
                past = [schedule[index] for index in past_of(schedule, agent)]
                self.assertEqual(follow(protocol, crowd, past)[agent], end[agent])

    def test_the_sources_alone_matter(self):
        draw = random.Random(7)
        for seed in range(60):
            protocol = drawn_protocol(seed, 4)
            schedule = drawn_schedule(draw, 6, 5)
            crowd = [draw.randrange(4) for _ in range(6)]
            end = follow(protocol, crowd, schedule)
            for agent in range(6):
                sources = sources_of(schedule, agent)
                other = [state if number in sources else draw.randrange(4) for number, state in enumerate(crowd)]
                self.assertEqual(follow(protocol, other, schedule)[agent], end[agent])


if __name__ == "__main__":
    unittest.main()

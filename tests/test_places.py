"""Points 5, 6 and 27: places, meetings and runs, and the sum of the outputs."""

import random
import unittest

from mingle.errors import NotPossible, WrongCounts
from mingle.places import after, meetings, outputs_in, run, size, successors, total_output
from mingle.protocols import Rulebook
from samples import drawn_protocol, majority, names, pair, plain

GREAT = 10**30 - 1


def agents_of(place):
    return [state for state, count in enumerate(place) for _ in range(count)]


def agent_meetings(protocol, place):
    """For each pair of two different agents, the pair of their states and the place after they met."""
    agents = agents_of(place)
    for one, first in enumerate(agents):
        for two, second in enumerate(agents):
            if one != two:
                crowd = list(agents)
                crowd[one], crowd[two] = protocol.meet(first, second)
                yield (first, second), tuple(crowd.count(state) for state in range(len(protocol)))


class SizeTest(unittest.TestCase):
    def test_size(self):
        self.assertEqual([size(()), size((0, 0)), size((3, 0, 4)), size((GREAT, 1))], [0, 0, 7, 10**30])


class MeetingsTest(unittest.TestCase):
    def test_majority(self):
        self.assertEqual(meetings(majority(), (2, 1, 0, 0)), [(0, 1), (1, 0)])
        self.assertEqual(meetings(majority(), (1, 1, 1, 1)), [(0, 1), (0, 2), (1, 0), (1, 3)])

    def test_a_state_with_itself_needs_two_agents(self):
        self.assertEqual(meetings(pair(), (0, 5)), [])
        self.assertEqual(meetings(pair(), (1, 5)), [])
        self.assertEqual(meetings(pair(), (2, 0)), [(0, 0)])

    def test_rules_that_change_nothing_are_left_out(self):
        protocol = plain(["a", "b"], [("a", "b", "a", "b"), ("a", "a", "a", "a"), ("b", "b", "a", "b")])
        self.assertEqual(meetings(protocol, (2, 2)), [(1, 1)])

    def test_rules_that_exchange_are_there(self):
        protocol = plain(["a", "b"], [("b", "a", "a", "b"), ("a", "b", "b", "a")])
        self.assertEqual(meetings(protocol, (1, 1)), [(0, 1), (1, 0)])
        self.assertEqual(meetings(protocol, (2, 0)), [])

    def test_one_of_the_two_changes(self):
        protocol = plain(["a", "b", "c"], [("a", "b", "c", "b"), ("b", "a", "b", "c")])
        self.assertEqual(meetings(protocol, (1, 1, 0)), [(0, 1), (1, 0)])

    def test_ascending_whatever_the_order_of_the_rules(self):
        states = names(12)
        rules = [(first, second, "s0", "s0") for first in states for second in states]
        random.Random(5).shuffle(rules)
        found = meetings(plain(states, rules), (2,) * 12)
        self.assertEqual(found, [(one, two) for one in range(12) for two in range(12) if (one, two) != (0, 0)])

    def test_many_states_and_few_rules(self):
        states = names(400)
        protocol = plain(states, [("s399", "s0", "s1", "s1"), ("s0", "s399", "s1", "s1"), ("s7", "s7", "s7", "s8")])
        self.assertEqual(meetings(protocol, (1,) * 400), [(0, 399), (399, 0)])
        self.assertEqual(meetings(protocol, (2,) * 400), [(0, 399), (7, 7), (399, 0)])

    def test_great_counts(self):
        self.assertEqual(meetings(pair(), (GREAT, GREAT)), [(0, 0)])

    def test_against_agents_one_by_one(self):
        for seed in range(60):
            protocol = drawn_protocol(seed, 1 + seed % 6)
            draw = random.Random(seed)
            place = tuple(draw.randrange(4) for _ in range(len(protocol)))
            steps = list(agent_meetings(protocol, place))
            expected = sorted({states for states, _ in steps if protocol.meet(*states) != states})
            self.assertEqual(meetings(protocol, place), expected)
            self.assertEqual(successors(protocol, place), sorted({there for _, there in steps} - {place}))

    def test_returned_lists_are_new(self):
        protocol = pair()
        for function in [meetings, successors, outputs_in]:
            first = function(protocol, (3, 1))
            first.append("junk")
            self.assertNotIn("junk", function(protocol, (3, 1)))


class AfterTest(unittest.TestCase):
    def test_after(self):
        self.assertEqual(after(majority(), (2, 1, 0, 0), (0, 1)), (1, 0, 2, 0))
        self.assertEqual(after(majority(), (1, 0, 2, 0), (0, 2)), (1, 0, 1, 1))

    def test_without_a_rule(self):
        self.assertEqual(after(majority(), (1, 0, 2, 0), (2, 0)), (1, 0, 2, 0))
        self.assertEqual(after(majority(), (1, 0, 2, 0), (2, 2)), (1, 0, 2, 0))

    def test_exchange(self):
        protocol = plain(["a", "b"], [("b", "a", "a", "b")])
        self.assertEqual(after(protocol, (1, 1), (1, 0)), (1, 1))

    def test_both_into_one_state(self):
        protocol = plain(["a", "b"], [("a", "a", "b", "b")])
        self.assertEqual(after(protocol, (2, 0), (0, 0)), (0, 2))

    def test_great_counts(self):
        self.assertEqual(after(pair(), (GREAT, GREAT - 5), (0, 0)), (GREAT - 1, GREAT - 4))

    def test_not_possible(self):
        cases = [((1, 0), (0, 0)), ((1, 0), (0, 1)), ((1, 0), (1, 0)), ((0, 1), (1, 1)), ((0, 0), (0, 1))]
        for place, meeting in cases:
            with self.assertRaises(NotPossible) as caught:
                after(pair(), place, meeting)
            self.assertEqual(caught.exception.index, 0)

    def test_numbers_that_are_no_states(self):
        for meeting in [(0, 2), (2, 0), (0, -1), (-1, 0), (-2, -1), (10**29, 0)]:
            with self.assertRaises(NotPossible):
                after(pair(), (3, 3), meeting)


class RunTest(unittest.TestCase):
    def test_document(self):
        self.assertEqual(run(pair(), (3, 0), [(0, 0), (0, 0)]), (1, 2))

    def test_document_not_possible(self):
        with self.assertRaises(NotPossible) as caught:
            run(pair(), (3, 0), [(0, 0), (0, 1), (1, 0), (0, 0), (0, 0)])
        self.assertEqual(caught.exception.index, 4)

    def test_first_of_several_that_are_not_possible(self):
        with self.assertRaises(NotPossible) as caught:
            run(pair(), (2, 0), [(0, 0), (1, 1), (0, 0)])
        self.assertEqual(caught.exception.index, 1)

    def test_a_meeting_may_need_those_before_it(self):
        self.assertEqual(run(majority(), (1, 1, 1, 0), [(0, 2), (1, 3), (0, 2)]), (1, 1, 0, 1))
        with self.assertRaises(NotPossible):
            run(majority(), (1, 1, 1, 0), [(1, 3), (0, 2), (0, 2)])

    def test_empty_run(self):
        self.assertEqual(run(pair(), (3, 0), []), (3, 0))

    def test_long_run(self):
        protocol = plain(["a", "b"], [("a", "b", "b", "b"), ("b", "b", "a", "b")])
        self.assertEqual(run(protocol, (1, 1), [(0, 1), (1, 1)] * 5000), (1, 1))

    def test_size_stays(self):
        protocol = drawn_protocol(3, 5)
        place = (3, 2, 4, 1, 2)
        for meeting in meetings(protocol, place):
            self.assertEqual(size(after(protocol, place, meeting)), 12)

    def test_arguments_are_not_changed(self):
        way = [(0, 0), (0, 1)]
        run(pair(), (3, 0), way)
        self.assertEqual(way, [(0, 0), (0, 1)])


class SuccessorsTest(unittest.TestCase):
    def test_majority(self):
        self.assertEqual(successors(majority(), (2, 1, 0, 0)), [(1, 0, 2, 0)])
        self.assertEqual(successors(majority(), (1, 1, 1, 1)), [(0, 0, 3, 1), (1, 1, 0, 2), (1, 1, 2, 0)])

    def test_the_place_itself_is_left_out(self):
        protocol = plain(["a", "b"], [("a", "b", "b", "a"), ("b", "a", "b", "b")])
        self.assertEqual(successors(protocol, (1, 1)), [(0, 2)])
        self.assertEqual(successors(plain(["a", "b"], [("a", "b", "b", "a")]), (1, 1)), [])

    def test_each_one_once(self):
        protocol = plain(["a", "b", "c"], [("a", "b", "c", "c"), ("b", "a", "c", "c")])
        self.assertEqual(successors(protocol, (1, 1, 0)), [(0, 0, 2)])

    def test_nobody_to_meet(self):
        self.assertEqual(successors(pair(), (1, 0)), [])
        self.assertEqual(successors(pair(), (0, 0)), [])
        self.assertEqual(successors(Rulebook([], [], [], [], []), ()), [])

    def test_great_counts(self):
        self.assertEqual(successors(pair(), (GREAT, 0)), [(GREAT - 1, 1)])


class OutputsTest(unittest.TestCase):
    def test_outputs_in(self):
        protocol = Rulebook(["a", "b", "c", "d"], [], [], [], [9, 0, 3, 9])
        self.assertEqual(outputs_in(protocol, (1, 1, 1, 1)), [0, 3, 9])
        self.assertEqual(outputs_in(protocol, (2, 0, 0, 5)), [9])
        self.assertEqual(outputs_in(protocol, (0, 4, 0, 0)), [0])
        self.assertEqual(outputs_in(protocol, (0, 0, 0, 0)), [])

    def test_total_output(self):
        protocol = Rulebook(["a", "b", "c", "d"], [], [], [], [9, 0, 3, 9])
        self.assertEqual(total_output(protocol, (1, 1, 1, 1)), 21)
        self.assertEqual(total_output(protocol, (2, 7, 5, 0)), 33)
        self.assertEqual(total_output(protocol, (0, 7, 0, 0)), 0)
        self.assertEqual(total_output(protocol, (0, 0, 0, 0)), 0)
        self.assertEqual(total_output(protocol, (GREAT, GREAT, 1, 0)), 9 * GREAT + 3)


class WrongPlacesTest(unittest.TestCase):
    WRONG = [(), (1,), (1, 2, 3), (-1, 0), (0, -1), (3, -1)]

    def test_places_that_do_not_fit(self):
        for place in self.WRONG:
            for function in [meetings, successors, outputs_in, total_output]:
                with self.assertRaises(WrongCounts):
                    function(pair(), place)

    def test_wrong_counts_before_not_possible(self):
        for place in self.WRONG:
            with self.assertRaises(WrongCounts):
                after(pair(), place, (1, 1))
            with self.assertRaises(WrongCounts):
                run(pair(), place, [(1, 1), (0, 0)])
            with self.assertRaises(WrongCounts):
                run(pair(), place, [])

    def test_protocol_without_states(self):
        empty = Rulebook([], [], [], [], [])
        self.assertEqual([meetings(empty, ()), outputs_in(empty, ()), total_output(empty, ())], [[], [], 0])
        with self.assertRaises(WrongCounts):
            meetings(empty, (0,))


if __name__ == "__main__":
    unittest.main()

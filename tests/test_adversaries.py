"""Points 42 and 43: adversaries, and that no delay helps."""

import random
import unittest

from mingle.adversaries import delay
from mingle.checking import check, is_right
from mingle.compiling import compile_text
from mingle.crowds import crowd_of, follow, place_of
from mingle.formulas import answer
from mingle.formulatext import parse_formula
from mingle.graphs import explore
from mingle.places import outputs_in
from mingle.protocols import Rulebook
from samples import drawn_protocol, majority, pair, plain


def with_outputs(protocol, outputs):
    return Rulebook(protocol.states, protocol.inputs, protocol.leaders, protocol.rules, outputs)


def naive_delay(protocol, crowd, goal, count):
    """Point 42, word by word."""
    here, schedule = list(crowd), []
    pairs = [(first, second) for first in range(len(here)) for second in range(len(here)) if first != second]
    for _ in range(count if pairs else 0):
        place = place_of(protocol, here)
        after = {told: place_of(protocol, follow(protocol, here, [told])) for told in pairs}
        wrong = [told for told in pairs if not is_right(protocol, after[told], goal)]
        moving = [told for told in wrong if after[told] != place]
        schedule.append((moving + wrong + pairs)[0])
        here = follow(protocol, here, schedule[-1:])
    return schedule


class DelayTest(unittest.TestCase):
    def test_no_meeting(self):
        for crowd in [[], [0], [0, 0], [0, 1, 1]]:
            for goal in [("answer", 1), ("total", 0)]:
                self.assertEqual(delay(pair(), crowd, goal, 0), [])

    def test_fewer_than_two_agents(self):
        for crowd in [[], [0], [1]]:
            for goal in [("answer", 1), ("answer", 0), ("total", 0), ("total", 1)]:
                for count in [1, 2, 100]:
                    self.assertEqual(delay(pair(), crowd, goal, count), [])

    def test_two_agents(self):
        self.assertEqual(delay(pair(), [0, 0], ("answer", 1), 3), [(0, 1), (0, 1), (0, 1)])
        one_way = plain(["a", "b"], [("a", "b", "b", "b")])
        # The meeting of "a" and "b" leads to a place that is not right; then nothing does.
        goal = ("total", 1)
        protocol = with_outputs(one_way, [1, 0])
        self.assertEqual(delay(protocol, [1, 0], goal, 3), [(1, 0), (0, 1), (0, 1)])
        self.assertEqual(delay(protocol, [0, 1], goal, 2), [(0, 1), (0, 1)])

    def test_a_wrong_place_that_is_another_one(self):
        # (0, 1) and (0, 2) stay in the wrong place; (1, 2) leads to another wrong one.
        protocol = Rulebook(["a", "b", "c"], [], [], [("b", "b", "b", "c")], [1, 0, 0])
        self.assertEqual(delay(protocol, [0, 1, 1], ("answer", 1), 1), [(1, 2)])
        self.assertEqual(delay(protocol, [0, 1, 1], ("answer", 1), 3), [(1, 2), (0, 1), (0, 1)])
        self.assertEqual(delay(protocol, [1, 0, 1, 1], ("total", 0), 4), [(0, 2), (0, 3), (0, 1), (0, 1)])

    def test_a_right_place_is_left_out(self):
        # (0, 1) leads to a right place; so it waits.
        protocol = Rulebook(["a", "b"], [], [], [("a", "a", "b", "b")], [0, 1])
        self.assertEqual(delay(protocol, [0, 0, 1], ("answer", 1), 2), [(0, 2), (0, 2)])
        self.assertEqual(delay(protocol, [1, 0, 0], ("answer", 1), 2), [(0, 1), (0, 1)])
        self.assertEqual(delay(protocol, [1, 0, 0], ("answer", 0), 2), [(1, 2), (0, 1)])

    def test_a_wrong_place_that_is_the_present_one(self):
        protocol = Rulebook(["a", "b", "c"], [], [], [("a", "b", "c", "c"), ("b", "a", "b", "a")], [0, 0, 1])
        self.assertEqual(delay(protocol, [0, 1], ("answer", 1), 2), [(1, 0), (1, 0)])
        self.assertEqual(delay(protocol, [1, 0], ("answer", 1), 2), [(0, 1), (0, 1)])
        # A meeting in which the two exchange their states leads to no other place.
        swap = Rulebook(["a", "b", "c"], [], [], [("a", "b", "b", "a"), ("a", "c", "a", "a")], [0, 0, 1])
        self.assertEqual(delay(swap, [0, 1, 2], ("answer", 1), 2), [(0, 2), (0, 1)])
        self.assertEqual(delay(swap, [0, 1], ("answer", 1), 3), [(0, 1), (0, 1), (0, 1)])

    def test_no_wrong_place_next_to_it(self):
        protocol = Rulebook(["a", "b"], [], [], [("a", "a", "a", "b")], [1, 1])
        self.assertEqual(delay(protocol, [1, 0, 0], ("answer", 1), 4), [(0, 1)] * 4)
        # From the present wrong place all meetings lead to right ones.
        right = Rulebook(["a", "b"], [], [], [("a", "a", "b", "b")], [0, 1])
        self.assertEqual(delay(right, [0, 0], ("answer", 1), 3), [(0, 1)] * 3)

    def test_both_kinds_of_goals(self):
        for protocol in [majority(), pair(), compile_text("x + -1 * y >= 1")]:
            for crowd in [[0, 1, 0, 0], [1, 0, 1], [1, 1, 0, 0, 1]]:
                for goal in [("answer", 0), ("answer", 1), ("total", 0), ("total", 2), ("total", 3)]:
                    self.assertEqual(delay(protocol, crowd, goal, 12), naive_delay(protocol, crowd, goal, 12))

    def test_drawn_protocols(self):
        draw = random.Random(1)
        for seed in range(150):
            protocol = drawn_protocol(seed, 2 + seed % 4)
            few = with_outputs(protocol, [output % 2 for output in protocol.outputs])
            crowd = [draw.randrange(len(few)) for _ in range(draw.randint(0, 6))]
            goal = draw.choice([("answer", 0), ("answer", 1), ("total", draw.randint(0, 4))])
            found = delay(few, crowd, goal, 8)
            self.assertEqual(found, naive_delay(few, crowd, goal, 8), (seed, crowd, goal))
            self.assertEqual(len(found), 8 if len(crowd) > 1 else 0)

    def test_many_meetings(self):
        protocol = compile_text("x + -1 * y >= 1")
        crowd = [0] * 30 + [1] * 30
        schedule = delay(protocol, crowd, ("answer", 0), 500)
        self.assertEqual(len(schedule), 500)
        here = crowd
        for told in schedule:
            here = follow(protocol, here, [told])
            self.assertIn(1, outputs_in(protocol, place_of(protocol, here)))

    def test_the_crowd_stays_as_it_is(self):
        crowd = [0, 0, 1, 0]
        delay(pair(), crowd, ("total", 2), 9)
        self.assertEqual(crowd, [0, 0, 1, 0])


class NoDelayHelpsTest(unittest.TestCase):
    """Point 43: a goal that is kept from a place is kept from all places to which an adversary leads."""

    def kept(self, protocol, place, goal, count):
        self.assertEqual(check(protocol, place, goal)[0], "yes")
        graph = explore(protocol, place)
        here = crowd_of(place)
        for told in delay(protocol, here, goal, count):
            here = follow(protocol, here, [told])
            self.assertIsNotNone(graph.number_of(place_of(protocol, here)))
            self.assertEqual(check(protocol, place_of(protocol, here), goal)[0], "yes")

    def test_compiled_protocols(self):
        for text in ["x + -1 * y >= 1", "x = 1 mod 2 or y >= 2"]:
            protocol = compile_text(text)
            for counts in [[2, 1], [1, 1], [3, 1], [1, 2]]:
                told = answer(parse_formula(text), dict(zip("xy", counts)))
                self.kept(protocol, protocol.first_place(counts), ("answer", int(told)), 12)

    def test_drawn_protocols(self):
        many = 0
        for seed in range(80):
            protocol = drawn_protocol(seed, 3)
            few = with_outputs(protocol, [output % 2 for output in protocol.outputs])
            for goal in [("answer", 0), ("answer", 1), ("total", 1)]:
                if check(few, (3, 0, 0), goal)[0] == "yes":
                    self.kept(few, (3, 0, 0), goal, 10)
                    many += 1
        self.assertGreater(many, 10)


if __name__ == "__main__":
    unittest.main()

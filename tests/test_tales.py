"""Points 72 and 73: tales about crowds, and drawn meetings."""

import copy
import random
import unittest

from mingle.crowds import follow
from mingle.protocols import Rulebook
from mingle.tales import drawn, tell
from samples import drawn_protocol, majority, names, pair

EMPTY = Rulebook([], [], [], [], [])
BAD = "bad line"
GREAT = 10 ** 29


class DrawnTest(unittest.TestCase):
    def test_document(self):
        self.assertEqual(drawn(1, 3, 2), [(2, 0), (2, 0)])

    def test_no_meeting(self):
        self.assertEqual(drawn(1, 2, 0), [])
        self.assertEqual(drawn(0, 1000, 0), [])

    def test_two_agents(self):
        # The second agent is s modulo 1, which is 0, plus 1 if the first one is 0.
        for seed in range(20):
            state, expected = seed, []
            for _ in range(5):
                state = (state * 48271 + 1) % 2147483647
                expected.append((state % 2, 1 - state % 2))
                state = (state * 48271 + 1) % 2147483647
            self.assertEqual(drawn(seed, 2, 5), expected)

    def test_seed_0(self):
        # s is 1, 48272, 48272 * 48271 + 1 - 2147483647 = 182654066, and then
        # 182654066 * 48271 + 1 - 4105 * 2147483647 = 1474048952.
        self.assertEqual(drawn(0, 10, 1), [(1, 48272 % 9 + 1)])
        self.assertEqual(drawn(0, 10, 2), [(1, 6), (6, 1474048952 % 9 + 1)])

    def test_the_second_agent_is_another_one(self):
        told = set()
        for seed in range(200):
            for agents in [2, 3, 4, 7]:
                for first, second in drawn(seed, agents, 10):
                    self.assertNotEqual(first, second)
                    self.assertTrue(0 <= first < agents and 0 <= second < agents)
                    told.add((agents, first, second))
        self.assertEqual(len(told), 2 + 6 + 12 + 42)

    def test_several_seeds(self):
        for seed in [0, 1, 2, 7, 999999999, 2147483646, 2147483647, 2147483648, GREAT]:
            for agents in [2, 3, 5, 100, GREAT]:
                state, expected = seed, []
                for _ in range(30):
                    state = (state * 48271 + 1) % 2147483647
                    first = state % agents
                    state = (state * 48271 + 1) % 2147483647
                    second = state % (agents - 1)
                    expected.append((first, second if second < first else second + 1))
                self.assertEqual(drawn(seed, agents, 30), expected)
                self.assertEqual(drawn(seed, agents, 7), expected[:7])
        self.assertEqual(drawn(2147483647, 5, 9), drawn(0, 5, 9))


class TellTest(unittest.TestCase):
    def told(self, protocol, *rows):
        """Each row has a line and its reply."""
        self.assertEqual(tell(protocol, "\n".join([line for line, _ in rows])), [reply for _, reply in rows])

    def bad(self, protocol, begin, *lines):
        """Each of the lines is bad behind those at the beginning, and changes nothing."""
        first = tell(protocol, "\n".join([*begin, "show", "outputs"]))
        for line in lines:
            replies = tell(protocol, "\n".join([*begin, line, "show", "outputs"]))
            self.assertEqual(replies, [*first[:-2], BAD, *first[-2:]], line)

    def test_document(self):
        self.told(pair(), ("crowd x x x", "crowd 3"), ("meet 2 0", "x z"), ("show", "show z x x"), ("meet 1 1", BAD),
                  ("count x", "count 2"), ("outputs", "outputs 0 1"))

    def test_at_first_there_is_no_agent(self):
        self.told(pair(), ("show", "show"))
        self.told(pair(), ("outputs", "outputs"))
        self.told(pair(), ("count x", "count 0"))
        self.told(pair(), ("draw 1 0", "drawn 0"))
        self.told(pair(), ("draw 1 1", BAD))
        self.told(pair(), ("meet 0 1", BAD))

    def test_crowds(self):
        self.told(majority(), ("crowd y a n b a", "crowd 5"), ("show", "show y a n b a"), ("crowd b", "crowd 1"),
                  ("show", "show b"), ("crowd a b", "crowd 2"), ("crowd", "crowd 0"), ("show", "show"))

    def test_crowd_without_agents(self):
        self.told(pair(), ("crowd x x", "crowd 2"), ("crowd", "crowd 0"), ("show", "show"), ("count x", "count 0"),
                  ("outputs", "outputs"), ("meet 0 1", BAD), ("draw 1 0", "drawn 0"), ("draw 1 1", BAD))

    def test_names_that_occur_twice(self):
        self.told(pair(), ("crowd z x z x x", "crowd 5"), ("show", "show z x z x x"), ("count z", "count 2"),
                  ("count x", "count 3"))

    def test_unknown_names(self):
        self.bad(pair(), ["crowd x z"], "crowd y", "crowd x y", "crowd y x", "crowd X", "crowd 0", "crowd x, z", "crowd x x1",
                 "count y", "count X", "count 0", "count xz", "crowd crowd")
        self.bad(EMPTY, ["crowd"], "crowd x", "count x")

    def test_meetings(self):
        self.told(majority(), ("crowd a b n y", "crowd 4"), ("meet 0 1", "n n"), ("show", "show n n n y"),
                  ("crowd a b n y", "crowd 4"), ("meet 1 0", "n n"), ("meet 2 3", "n y"), ("show", "show n n n y"))

    def test_states_in_the_order_of_the_meeting(self):
        self.told(majority(), ("crowd n a", "crowd 2"), ("meet 0 1", "n a"), ("meet 1 0", "a y"), ("meet 0 1", "y a"),
                  ("show", "show y a"))

    def test_agents_that_are_not_there_or_the_same(self):
        self.bad(pair(), ["crowd x x z"], "meet 0 3", "meet 3 0", "meet 3 4", "meet 0 0", "meet 2 2", "meet 3 3",
                 "meet 0 999999999", "meet 999999999 0", "meet 1 10")
        self.bad(pair(), ["crowd x"], "meet 0 0", "meet 0 1", "meet 1 0")

    def test_numbers(self):
        begin = ["crowd " + " ".join(["x"] * 12)]
        self.bad(pair(), begin, "meet 00 1", "meet 0 01", "meet 0 001", "meet -0 1", "meet +0 1", "meet 0 -1", "meet 0 +1",
                 "meet 0 1.", "meet 0x 1", "meet a 1", "meet x x", "meet 0 1000000000", "meet 0000000000 1",
                 "meet 0 0000000001", "draw 01 1", "draw 1 01", "draw 00 1", "draw -1 1", "draw 1 -1", "draw +1 1", "draw 1 +1",
                 "draw 1000000000 1", "draw 1 1000000000", "draw x 1", "draw 1 x", "draw 1 00", "draw 1.5 2", "meet 0 1e0")
        self.told(pair(), (begin[0], "crowd 12"), ("meet 10 11", "x z"), ("meet 0 9", "x z"), ("draw 999999999 1", "drawn 1"))

    def test_numbers_of_nine_digits(self):
        self.told(pair(), ("crowd x x", "crowd 2"), ("draw 999999999 0", "drawn 0"), ("draw 100000000 2", "drawn 2"))
        self.bad(pair(), ["crowd x x"], "draw 1000000000 0", "draw 0999999999 0", "draw 1 100000000")

    def test_numbers_of_words(self):
        self.bad(pair(), ["crowd x x z"], "meet", "meet 0", "meet 0 1 2", "draw", "draw 1", "draw 1 1 1", "show x", "show 0",
                 "show show", "count", "count x z", "count x x", "outputs x", "outputs 1")

    def test_forms(self):
        self.bad(pair(), ["crowd x x z"], "", " ", "x", "0", "Crowd x", "CROWD", "crowds x", "crow x", "met 0 1", "Meet 0 1",
                 "meets 0 1", "draws 1 1", "drawn 1 1", "shows", "Show", "counts x", "output", "Outputs", "bad line", "tell",
                 "meet,0,1", "crowd:x", "-", "end")

    def test_spaces(self):
        self.bad(pair(), ["crowd x x z"], " crowd x", "crowd  x", "crowd x ", "crowd ", "crowd x  x", " meet 0 1",
                 "meet  0 1", "meet 0  1", "meet 0 1 ", "meet ", "draw  1 1", "draw 1  1", "draw 1 1 ", " draw 1 1", " show", "show ",
                 "count  x", "count x ", " count x", "count ", " outputs", "outputs ", "  ")

    def test_empty_lines_and_the_empty_text(self):
        self.assertEqual(tell(pair(), ""), [BAD])
        self.assertEqual(tell(pair(), "\n"), [BAD, BAD])
        self.assertEqual(tell(pair(), "\n\nshow\n"), [BAD, BAD, "show", BAD])
        self.assertEqual(tell(EMPTY, "crowd\nshow\noutputs\n"), ["crowd 0", "show", "outputs", BAD])

    def test_draws(self):
        for seed in [0, 1, 5, 123456789]:
            for many in [2, 3, 6]:
                protocol = drawn_protocol(seed % 4, 4)
                crowd = [agent % 4 for agent in range(many)]
                for count in [0, 1, 7, 500]:
                    end = follow(protocol, crowd, drawn(seed, many, count))
                    self.told(protocol, ("crowd " + " ".join([f"s{state}" for state in crowd]), f"crowd {many}"),
                              (f"draw {seed} {count}", f"drawn {count}"),
                              ("show", " ".join(["show", *[f"s{state}" for state in end]])))

    def test_draws_go_on_from_the_crowd(self):
        self.told(pair(), ("crowd x x x", "crowd 3"), ("draw 1 1", "drawn 1"), ("show", "show z x x"), ("draw 1 1", "drawn 1"),
                  ("show", "show z x x"), ("meet 1 2", "x z"), ("draw 1 500", "drawn 500"), ("show", "show z x z"))

    def test_500_and_501(self):
        self.told(pair(), ("crowd x x", "crowd 2"), ("draw 1 499", "drawn 499"), ("draw 1 500", "drawn 500"), ("draw 1 501", BAD),
                  ("draw 1 999", BAD), ("draw 1 500", "drawn 500"))
        self.bad(pair(), ["crowd x x x"], "draw 1 501", "draw 1 502", "draw 1 5000", "draw 1 999999999")

    def test_draws_with_no_agent_and_one(self):
        for begin, reply in [("crowd", "crowd 0"), ("crowd x", "crowd 1")]:
            self.told(pair(), (begin, reply), ("draw 1 0", "drawn 0"), ("draw 0 0", "drawn 0"), ("draw 1 1", BAD))
            self.bad(pair(), [begin], "draw 1 1", "draw 1 2", "draw 1 500", "draw 1 501")

    def test_counts(self):
        self.told(majority(), ("crowd a a n", "crowd 3"), ("count a", "count 2"), ("count b", "count 0"), ("count n", "count 1"),
                  ("meet 0 2", "a y"), ("count n", "count 0"), ("count y", "count 1"), ("count a", "count 2"))

    def test_outputs(self):
        protocol = Rulebook(list("abcd"), [], [], [], [9, 0, 4, 9])
        self.told(protocol, ("crowd a b c d", "crowd 4"), ("outputs", "outputs 0 4 9"), ("crowd d a a", "crowd 3"),
                  ("outputs", "outputs 9"), ("crowd c a", "crowd 2"), ("outputs", "outputs 4 9"), ("crowd b", "crowd 1"),
                  ("outputs", "outputs 0"))

    def test_a_bad_line_changes_nothing(self):
        self.told(pair(), ("crowd x z", "crowd 2"), ("crowd x y", BAD), ("show", "show x z"), ("meet 0 0", BAD), ("meet 0 2", BAD),
                  ("draw 1 501", BAD), ("show", "show x z"), ("crowd", "crowd 0"), ("crowd y", BAD), ("show", "show"))

    def test_states_with_the_names_of_words(self):
        protocol = Rulebook(["crowd", "show", "meet"], [], [], [("crowd", "show", "meet", "crowd")], [1, 2, 3])
        self.told(protocol, ("crowd crowd show", "crowd 2"), ("meet 0 1", "meet crowd"), ("show", "show meet crowd"),
                  ("count meet", "count 1"), ("count show", "count 0"))

    def test_many_agents(self):
        protocol = Rulebook(names(3), [], [], [("s0", "s0", "s0", "s1")], [0, 1, 2])
        self.told(protocol, ("crowd " + " ".join(["s0"] * 1500), "crowd 1500"), ("meet 1499 1498", "s0 s1"), ("count s0", "count 1499"),
                  ("draw 7 500", "drawn 500"), ("count s2", "count 0"))

    def test_drawn_tales(self):
        draw = random.Random(1)
        for seed in range(60):
            protocol = drawn_protocol(seed, 3)
            before = copy.deepcopy(protocol)
            crowd, lines, replies = [], [], []
            for _ in range(30):
                word = draw.choice(["crowd", "meet", "meet", "meet", "draw", "show", "count", "outputs"])
                if word == "crowd":
                    crowd = [draw.randrange(3) for _ in range(draw.randint(0, 4))]
                    lines.append(" ".join(["crowd", *[f"s{state}" for state in crowd]]))
                    replies.append(f"crowd {len(crowd)}")
                elif word == "meet":
                    first, second = draw.randrange(5), draw.randrange(5)
                    lines.append(f"meet {first} {second}")
                    if first != second and max(first, second) < len(crowd):
                        crowd[first], crowd[second] = protocol.meet(crowd[first], crowd[second])
                        replies.append(f"s{crowd[first]} s{crowd[second]}")
                    else:
                        replies.append(BAD)
                elif word == "draw":
                    start, count = draw.randrange(10 ** 9), draw.choice([0, 1, 2, 10, 501])
                    lines.append(f"draw {start} {count}")
                    if count == 501 or count > 0 and len(crowd) < 2:
                        replies.append(BAD)
                    else:
                        crowd = follow(protocol, crowd, drawn(start, len(crowd), count) if count > 0 else [])
                        replies.append(f"drawn {count}")
                elif word == "show":
                    lines.append("show")
                    replies.append(" ".join(["show", *[f"s{state}" for state in crowd]]))
                elif word == "count":
                    state = draw.randrange(3)
                    lines.append(f"count s{state}")
                    replies.append(f"count {crowd.count(state)}")
                else:
                    lines.append("outputs")
                    outputs = sorted({protocol.outputs[state] for state in crowd})
                    replies.append(" ".join(["outputs", *[str(output) for output in outputs]]))
            self.assertEqual(tell(protocol, "\n".join(lines)), replies)
            self.assertEqual(protocol, before)


if __name__ == "__main__":
    unittest.main()

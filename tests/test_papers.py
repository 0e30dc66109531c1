"""Points 54 and 55: written papers, and whether they are accepted."""

import copy
import unittest

from mingle.checking import check, shows_no, shows_yes
from mingle.compiling import compile_text
from mingle.errors import InvalidText
from mingle.papers import format_paper, is_accepted, parse_paper
from mingle.protocols import Rulebook
from samples import counts_up_to, drawn_protocol, majority, pair

EMPTY = Rulebook([], [], [], [], [])
GREAT = 10 ** 30 - 1
YES = ["place 3 0", "goal total 1", "yes", "rank 2 3 0", "rank 1 2 1", "rank 0 1 2"]
NO = ["place 3 0", "goal answer 1", "no", "meet x x", "meet x x", "trap 1 2", "trap 0 3"]
WRONG_COUNTS = ["", "3", "3 0 0", "-3 0", "3 -0", "+3 0", "03 0", "3 00", "3 x", "3 0.", "3 0x1", f"{GREAT + 1} 0",
                f"3 {GREAT + 1}", "3  0", " 3 0", "3 0 ", "3 0 x", "3, 0", "3\t0", "a b"]


class FormTest(unittest.TestCase):
    def both_ways(self, protocol, place, goal, answer, text):
        self.assertEqual(format_paper(protocol, place, goal, answer), text)
        self.assertEqual(parse_paper(protocol, text), (place, goal, answer))

    def test_document(self):
        answer = ("yes", [((2, 0), 1), ((1, 1), 0)])
        self.both_ways(pair(), (2, 0), ("total", 1), answer, "place 2 0\ngoal total 1\nyes\nrank 1 2 0\nrank 0 1 1")

    def test_yes(self):
        answer = check(pair(), (3, 0), ("total", 1))
        self.both_ways(pair(), (3, 0), ("total", 1), answer, "\n".join(YES))
        self.both_ways(pair(), (0, 2), ("answer", 0), ("yes", [((0, 2), 0)]), "place 0 2\ngoal answer 0\nyes\nrank 0 0 2")

    def test_no(self):
        answer = ("no", ([(0, 0), (0, 0)], [(1, 2), (0, 3)]))
        self.both_ways(pair(), (3, 0), ("answer", 1), answer, "\n".join(NO))
        answer = ("no", ([(1, 0), (0, 3)], [(0, 1, 2, 3)]))
        text = "place 2 1 0 0\ngoal total 5\nno\nmeet b a\nmeet a y\ntrap 0 1 2 3"
        self.both_ways(majority(), (2, 1, 0, 0), ("total", 5), answer, text)

    def test_empty_papers(self):
        self.both_ways(pair(), (3, 0), ("total", 1), ("yes", []), "place 3 0\ngoal total 1\nyes")
        self.both_ways(pair(), (3, 0), ("total", 1), ("no", ([], [])), "place 3 0\ngoal total 1\nno")
        text = "place 3 0\ngoal total 1\nno\nmeet z x"
        self.both_ways(pair(), (3, 0), ("total", 1), ("no", ([(1, 0)], [])), text)
        text = "place 3 0\ngoal total 1\nno\ntrap 0 0"
        self.both_ways(pair(), (3, 0), ("total", 1), ("no", ([], [(0, 0)])), text)

    def test_order_is_kept(self):
        answer = ("yes", [((1, 2), 7), ((3, 0), 2), ((1, 2), 7), ((0, 0), 9)])
        text = "place 1 1\ngoal total 0\nyes\nrank 7 1 2\nrank 2 3 0\nrank 7 1 2\nrank 9 0 0"
        self.both_ways(pair(), (1, 1), ("total", 0), answer, text)
        answer = ("no", ([(1, 1), (0, 1), (1, 1)], [(9, 9), (0, 1), (9, 9)]))
        text = "place 1 1\ngoal total 0\nno\nmeet z z\nmeet x z\nmeet z z\ntrap 9 9\ntrap 0 1\ntrap 9 9"
        self.both_ways(pair(), (1, 1), ("total", 0), answer, text)

    def test_no_states(self):
        self.both_ways(EMPTY, (), ("answer", 0), ("yes", [((), 0)]), "place\ngoal answer 0\nyes\nrank 0")
        self.both_ways(EMPTY, (), ("total", 1), ("no", ([], [()])), "place\ngoal total 1\nno\ntrap")

    def test_great_numbers(self):
        answer = ("yes", [((GREAT, 0), GREAT)])
        text = f"place 0 {GREAT}\ngoal answer {GREAT}\nyes\nrank {GREAT} {GREAT} 0"
        self.both_ways(pair(), (0, GREAT), ("answer", GREAT), answer, text)
        answer = ("no", ([], [(0, GREAT)]))
        self.both_ways(pair(), (0, 0), ("total", GREAT), answer, f"place 0 0\ngoal total {GREAT}\nno\ntrap 0 {GREAT}")

    def test_checked_papers(self):
        for seed in range(12):
            protocol = drawn_protocol(seed, 3)
            for counts in counts_up_to(3, 3):
                place = tuple(counts)
                for goal in [("answer", protocol.outputs[2]), ("total", 5), ("total", protocol.outputs[0])]:
                    answer = check(protocol, place, goal)
                    text = format_paper(protocol, place, goal, answer)
                    self.assertEqual(parse_paper(protocol, text), (place, goal, answer))
                    self.assertIs(is_accepted(protocol, text), True)

    def test_what_is_passed_stays_as_it_is(self):
        for answer in [check(pair(), (3, 0), ("total", 1)), check(pair(), (3, 0), ("answer", 1))]:
            before = copy.deepcopy(answer)
            format_paper(pair(), (3, 0), ("total", 1), answer)
            self.assertEqual(answer, before)


class WrongLineTest(unittest.TestCase):
    def wrong(self, lines, number, protocol=pair()):
        for function in [parse_paper, is_accepted]:
            with self.assertRaises(InvalidText, msg=lines) as caught:
                function(protocol, "\n".join(lines))
            self.assertEqual(caught.exception.line, number, lines)

    def instead(self, lines, number, line):
        """The line with this number, counted from 1, is wrong if this one stands there."""
        self.wrong([*lines[:number - 1], line, *lines[number:]], number)
        # What stands behind it does not matter.
        self.wrong([*lines[:number - 1], line], number)

    def test_the_place(self):
        for counts in WRONG_COUNTS:
            for lines in [YES, NO]:
                self.instead(lines, 1, f"place {counts}")
        for line in ["", " ", "place", "places 3 0", "Place 3 0", " place 3 0", "trap 3 0", "3 0", "rank 0 3 0",
                     "goal total 1", "yes", "no", "meet x x", "place3 0"]:
            self.instead(YES, 1, line)
            self.instead(NO, 1, line)

    def test_the_goal(self):
        for line in ["", "goal", "goal total", "goal 1", "goal total 1 1", "goal mean 1", "goal Total 1", "goals total 1",
                     "goal total -1", "goal total +1", "goal total 01", "goal total 00", "goal answer -0", "goal answer x",
                     f"goal total {GREAT + 1}", "goal  total 1", "goal total  1", " goal total 1", "goal total 1 ",
                     "goal answer 1.", "place 3 0", "yes", "no", "goal total answer 1", "total 1", "goal answer "]:
            self.instead(YES, 2, line)
            self.instead(NO, 2, line)

    def test_yes_and_no(self):
        for line in ["", " ", "Yes", "NO", "yes ", " yes", "no ", " no", "yes no", "no yes", "maybe", "yes 1", "no 0",
                     "rank 2 3 0", "trap 1 2", "meet x x", "goal total 1", "place 3 0", "y", "noyes"]:
            self.instead(YES, 3, line)
            self.instead(NO, 3, line)

    def test_ranks(self):
        for number in [4, 5, 6]:
            for counts in WRONG_COUNTS:
                self.instead(YES, number, f"rank 0 {counts}")
            for rank in ["", "-1", "+1", "01", "00", "-0", "x", str(GREAT + 1), " 1", "1 ", "1 1"]:
                self.instead(YES, number, f"rank {rank} 3 0")
            for line in ["", " ", "rank", "ranks 0 3 0", "Rank 0 3 0", " rank 0 3 0", "rank  0 3 0", "place 3 0", "yes",
                         "no", "goal total 1", "0 3 0"]:
                self.instead(YES, number, line)

    def test_meetings(self):
        for number in [4, 5]:
            for line in ["", " ", "meet", "meet x", "meet x x x", "meet x y", "meet y x", "meet 0 0", "meet X x", "meet x ",
                         "meet  x x", "meet x  x", " meet x x", "meet x x ", "Meet x x", "meets x x", "meet x, x", "x x",
                         "meet  ", "meet x -", "yes", "no", "place 3 0", "goal total 1"]:
                self.instead(NO, number, line)

    def test_traps(self):
        for number in [6, 7]:
            for counts in WRONG_COUNTS:
                self.instead(NO, number, f"trap {counts}")
            for line in ["", " ", "trap", "traps 3 0", "Trap 3 0", " trap 3 0", "place 3 0", "3 0", "yes", "no"]:
                self.instead(NO, number, line)

    def test_what_stands_behind_another_word(self):
        for number in [4, 5, 6]:
            self.instead(YES, number, "trap 3 0")
            self.instead(YES, number, "meet x x")
        for number in [4, 5, 6, 7]:
            self.instead(NO, number, "rank 0 3 0")
        self.wrong([*NO[:6], "meet x x", NO[6]], 7)
        self.wrong([*NO, "meet x x"], 8)
        self.wrong([*NO[:3], "trap 1 2", *NO[3:]], 5)
        self.wrong([*NO[:3], "rank 0 3 0"], 4)
        self.wrong([*YES[:3], "trap 3 0"], 4)
        self.wrong([*YES[:3], "meet x x"], 4)

    def test_lines_in_another_order(self):
        self.wrong([YES[1], YES[0], *YES[2:]], 1)
        self.wrong([YES[0], YES[2], YES[1], *YES[3:]], 2)
        self.wrong([*YES[:2], YES[3], YES[2]], 3)
        self.wrong([YES[0], *YES], 2)
        self.wrong([*YES[:2], *YES[1:]], 3)
        self.wrong([*YES[:3], *YES[2:]], 4)
        self.wrong([*YES, *YES], 7)

    def test_lines_at_the_end(self):
        for lines in [YES, NO, YES[:3], NO[:3]]:
            self.wrong([*lines, ""], len(lines) + 1)
            self.wrong([*lines, " "], len(lines) + 1)
            self.wrong([*lines, "", "rank 0 3 0"], len(lines) + 1)
            self.wrong([*lines, "end"], len(lines) + 1)

    def test_lines_at_the_beginning(self):
        for lines in [YES, NO]:
            self.wrong(["", *lines], 1)
            self.wrong([" ", *lines], 1)

    def test_texts_that_end_too_early(self):
        self.wrong([], 1)
        self.wrong([""], 1)
        for lines in [YES, NO]:
            self.wrong(lines[:1], 2)
            self.wrong(lines[:2], 3)
            parse_paper(pair(), "\n".join(lines[:3]))
        self.wrong(["place 3 0", ""], 2)
        self.wrong(["place 3 0", "goal total 1", ""], 3)

    def test_two_wrong_lines(self):
        for first in range(1, 8):
            for second in range(first + 1, 8):
                lines = list(NO)
                lines[first - 1] = lines[second - 1] = "x"
                self.wrong(lines, first)
        self.wrong(["place 3", "goal total 01", "yes"], 1)
        self.wrong(["place 3 0", "goal total 1", "yes", "rank 1 3 0", "rank 1 3", "rank 3"], 5)

    def test_numbers_with_thirty_digits_and_more(self):
        longest = "1" + "0" * 29
        for line, number in [(f"place {longest} 0", 1), (f"goal total {longest}", 2), (f"rank {longest} 0 0", 4),
                             (f"rank 0 0 {longest}", 5)]:
            lines = list(YES)
            lines[number - 1] = line
            parse_paper(pair(), "\n".join(lines))
            lines[number - 1] = line.replace(longest, longest + "0")
            self.wrong(lines, number)

    def test_another_protocol(self):
        self.wrong(YES, 1, EMPTY)
        self.wrong(YES, 1, majority())
        self.wrong(["place 1 0 0 0", *NO[1:]], 4, majority())


class AcceptedTest(unittest.TestCase):
    def accepted(self, expected, *lines):
        self.assertIs(is_accepted(pair(), "\n".join(lines)), expected, lines)

    def test_document(self):
        self.accepted(True, "place 2 0", "goal total 1", "yes", "rank 1 2 0", "rank 0 1 1")
        with self.assertRaises(InvalidText):
            is_accepted(pair(), "place 2 0\ngoal total 1\nno\nmeet x y")

    def test_papers_for_yes(self):
        self.accepted(True, *YES)
        self.accepted(True, *YES[:3], YES[5], YES[3], YES[4])
        self.accepted(True, *YES[:3], "rank 9 3 0", "rank 4 2 1", "rank 0 1 2")
        self.accepted(False, *YES[:3])
        self.accepted(False, *YES[:5])
        self.accepted(False, *YES, YES[3])
        self.accepted(False, *YES[:3], "rank 2 3 0", "rank 2 2 1", "rank 0 1 2")
        self.accepted(False, *YES[:3], "rank 0 3 0", "rank 1 2 1", "rank 0 1 2")
        self.accepted(False, *YES[:3], "rank 2 3 0", "rank 1 2 1", "rank 1 1 2")
        self.accepted(False, "place 3 0", "goal total 2", *YES[2:])
        self.accepted(False, "place 3 0", "goal answer 1", *YES[2:])
        self.accepted(False, "place 4 0", *YES[1:])
        self.accepted(True, "place 2 1", *YES[1:])

    def test_papers_for_no(self):
        self.accepted(True, *NO[:6])
        self.accepted(False, *NO[:5])
        self.accepted(False, *NO[:3])
        self.accepted(False, *NO[:4], NO[5])
        self.accepted(False, *NO[:5], NO[6])
        self.accepted(True, *NO[:5], "trap 0 3", "trap 1 2")
        self.accepted(False, *NO[:6], NO[5])
        self.accepted(False, *NO[:5], NO[4], NO[5])
        self.accepted(False, "place 3 0", "goal total 1", *NO[2:6])
        self.accepted(True, "place 3 0", "goal total 2", *NO[2:6])
        self.accepted(True, "place 1 2", "goal total 2", "no", "trap 1 2")
        self.accepted(True, "place 2 1", "goal total 2", "no", "meet x z", "meet x x", "trap 1 2")

    def test_no_agents(self):
        self.accepted(True, "place 0 0", "goal answer 5", "yes", "rank 0 0 0")
        self.accepted(False, "place 0 0", "goal answer 5", "no", "trap 0 0")
        self.accepted(False, "place 0 0", "goal total 5", "yes", "rank 0 0 0")
        self.accepted(True, "place 0 0", "goal total 5", "no", "trap 0 0")

    def test_a_paper_for_the_other_answer(self):
        self.accepted(False, "place 1 1", "goal total 1", "no", "trap 1 1")
        self.accepted(False, "place 1 1", "goal total 0", "yes", "rank 0 1 1")

    def test_great_numbers(self):
        self.accepted(True, f"place 1 {GREAT}", "goal total 1", "yes", f"rank 0 1 {GREAT}")
        self.accepted(False, f"place 1 {GREAT}", "goal total 2", "yes", f"rank 0 1 {GREAT}")

    def test_against_the_papers_as_they_are(self):
        protocol = compile_text("x + -1 * y >= 1")
        for counts in counts_up_to(2, 3):
            place = protocol.first_place(counts)
            for goal in [("answer", 0), ("answer", 1), ("total", 1)]:
                word, paper = check(protocol, place, goal)
                other = ("answer", 1 - goal[1]) if goal[0] == "answer" else ("total", 2)
                shown = (shows_yes if word == "yes" else shows_no)(protocol, place, other, paper)
                self.assertIs(is_accepted(protocol, format_paper(protocol, place, other, (word, paper))), shown)
                self.assertIs(is_accepted(protocol, format_paper(protocol, place, goal, (word, paper))), True)


if __name__ == "__main__":
    unittest.main()

"""Points 22 to 26: goals, papers for yes and for no, checks, and the first failure of a formula."""

import copy
import random
import unittest

from mingle.bottoms import bottoms
from mingle.checking import check, first_failure, is_right, shows_no, shows_yes
from mingle.compiling import compile_formula, compile_text
from mingle.errors import NotPossible, TooLarge, WrongCounts
from mingle.formulas import answer
from mingle.formulatext import parse_formula
from mingle.graphs import explore
from mingle.places import outputs_in, run, size, successors, total_output
from mingle.protocols import Rulebook
from samples import FALSE, TRUE, counts_up_to, drawn_protocol, least, majority, pair, rest

EMPTY = Rulebook([], [], [], [], [])


def swinging():
    """An agent in "a" that meets one in "s" or in "t" moves it to the other one of the two."""
    rules = [("a", "s", "a", "t"), ("a", "t", "a", "s")]
    return Rulebook(["a", "s", "t"], [("x", "a")], [], rules, [1, 1, 1])


def forked():
    """Two agents in "a" and "b" become two in "c", or one in "a" and one in "c", by who comes first."""
    rules = [("a", "b", "c", "c"), ("b", "a", "a", "c")]
    return Rulebook(["a", "b", "c"], [("x", "a"), ("y", "b")], [], rules, [1, 1, 1])


def branching(outputs):
    """From (2, 0, 0, 0, 0, 0) the bottoms are that of two in "e", and that of two in "d" or of one in "d" and "f"."""
    rules = [("a", "a", "b", "c"), ("b", "c", "d", "d"), ("c", "b", "e", "e"), ("d", "d", "d", "f"),
             ("d", "f", "d", "d")]
    return Rulebook(list("abcdef"), [("x", "a")], [], rules, outputs)


def naive_yes(protocol, place, goal, paper):
    """Point 23, word by word."""
    places = [other for other, _ in paper]
    if place not in places or any(places.count(other) > 1 for other in places):
        return False
    for other, rank in paper:
        if len(other) != len(protocol) or min(other, default=0) < 0 or rank < 0:
            return False
        following = successors(protocol, other)
        if any(found not in places for found in following):
            return False
        ranks = [dict(paper)[found] for found in following]
        if rank == 0 and (not is_right(protocol, other, goal) or any(ranks)):
            return False
        if rank > 0 and all(found >= rank for found in ranks):
            return False
    return True


def naive_no(protocol, place, goal, paper):
    """Point 24, word by word."""
    way, trap = paper
    try:
        end = run(protocol, place, way)
    except NotPossible:
        return False
    if end not in trap or any(trap.count(other) > 1 for other in trap):
        return False
    if any(len(other) != len(protocol) or min(other, default=0) < 0 for other in trap):
        return False
    if any(found not in trap for other in trap for found in successors(protocol, other)):
        return False
    for other in trap:
        graph = explore(protocol, other)
        if all(is_right(protocol, graph.place(number), goal) for number in range(len(graph))):
            return False
    return True


def reached(graph, number):
    """The numbers of all places that can be reached from one of the graph."""
    found = [number]
    for here in found:
        found += [following for following in graph.steps(here) if following not in found]
    return found


def naive_ranks(graph, goal):
    """For each place the smallest number of meetings to a safely right one, by rounds; None if there is no way."""
    right = [is_right(graph.protocol, graph.place(number), goal) for number in range(len(graph))]
    ranks = [0 if all(right[other] for other in reached(graph, number)) else None for number in range(len(graph))]
    for wanted in range(1, len(graph)):
        for number in range(len(graph)):
            if ranks[number] is None and any(ranks[other] == wanted - 1 for other in graph.steps(number)):
                ranks[number] = wanted
    return ranks


def goals_for(graph):
    """Some goals that a protocol may keep, and some that it does not keep."""
    place = graph.place(bottoms(graph)[-1][0])
    answers = outputs_in(graph.protocol, place) or [0]
    return [("answer", answers[0]), ("answer", 1), ("total", total_output(graph.protocol, place)), ("total", 1)]


class RightTest(unittest.TestCase):
    def right(self, protocol, place, *goals):
        for goal in goals:
            self.assertIs(is_right(protocol, place, goal), True, (place, goal))

    def wrong(self, protocol, place, *goals):
        for goal in goals:
            self.assertIs(is_right(protocol, place, goal), False, (place, goal))

    def test_answers(self):
        self.right(pair(), (3, 0), ("answer", 1))
        self.right(pair(), (0, 2), ("answer", 0))
        self.wrong(pair(), (3, 0), ("answer", 0), ("answer", 2), ("answer", 3))
        self.wrong(pair(), (1, 1), ("answer", 0), ("answer", 1))
        self.right(majority(), (0, 1, 2, 0), ("answer", 0))
        self.wrong(majority(), (0, 1, 2, 1), ("answer", 0), ("answer", 1))

    def test_totals(self):
        self.right(pair(), (3, 0), ("total", 3))
        self.right(pair(), (2, 7), ("total", 2))
        self.right(pair(), (0, 7), ("total", 0))
        self.wrong(pair(), (3, 0), ("total", 1), ("total", 0), ("total", 4), ("total", -3))

    def test_no_agent(self):
        self.right(pair(), (0, 0), ("total", 0), *[("answer", number) for number in range(10)])
        self.wrong(pair(), (0, 0), ("total", 1), ("total", -1))
        self.right(EMPTY, (), ("total", 0), ("answer", 0), ("answer", 7))
        self.wrong(EMPTY, (), ("total", 1))

    def test_outputs_above_1(self):
        protocol = Rulebook(["a", "b", "c"], [], [], [], [9, 4, 9])
        self.right(protocol, (1, 0, 1), ("answer", 9), ("total", 18))
        self.right(protocol, (0, 5, 0), ("answer", 4), ("total", 20))
        self.wrong(protocol, (1, 0, 1), ("answer", 1), ("answer", 4), ("total", 2), ("total", 9))
        self.wrong(protocol, (1, 1, 0), ("answer", 9), ("answer", 4))
        self.right(protocol, (10 ** 29, 1, 0), ("total", 9 * 10 ** 29 + 4))

    def test_places_that_do_not_fit(self):
        for place in [(), (1,), (1, 1, 1), (0, 0, 0), (-1, 1), (2, -1)]:
            for goal in [("answer", 1), ("total", 1), ("answer", 0), ("total", 0)]:
                with self.assertRaises(WrongCounts):
                    is_right(pair(), place, goal)


class PaperTest(unittest.TestCase):
    def shown(self, shows, protocol, place, goal, *papers):
        for paper in papers:
            self.assertIs(shows(protocol, place, goal, paper), True, paper)

    def not_shown(self, shows, protocol, place, goal, *papers):
        for paper in papers:
            self.assertIs(shows(protocol, place, goal, paper), False, paper)


class YesTest(PaperTest):
    def test_right_papers(self):
        goal = ("total", 1)
        rows = [((3, 0), 2), ((2, 1), 1), ((1, 2), 0)]
        self.shown(shows_yes, pair(), (3, 0), goal, rows, rows[::-1], rows + [((1, 0), 0)])
        self.shown(shows_yes, pair(), (3, 0), goal, [((3, 0), 10 ** 29), ((2, 1), 7), ((1, 2), 0)])
        self.shown(shows_yes, pair(), (2, 1), goal, rows, rows[1:])
        self.shown(shows_yes, pair(), (1, 2), goal, rows, rows[1:], rows[2:])

    def test_other_goals(self):
        rows = [((3, 0), 2), ((2, 1), 1), ((1, 2), 0)]
        self.not_shown(shows_yes, pair(), (3, 0), ("total", 2), rows)
        self.not_shown(shows_yes, pair(), (3, 0), ("answer", 1), rows)
        self.shown(shows_yes, swinging(), (1, 1, 0), ("answer", 1), [((1, 1, 0), 0), ((1, 0, 1), 0)])

    def test_the_empty_paper(self):
        self.not_shown(shows_yes, pair(), (1, 0), ("total", 1), [])
        self.not_shown(shows_yes, EMPTY, (), ("total", 0), [])

    def test_the_place_is_missing(self):
        rows = [((2, 1), 1), ((1, 2), 0)]
        self.not_shown(shows_yes, pair(), (3, 0), ("total", 1), rows)
        self.not_shown(shows_yes, pair(), (0, 0), ("answer", 1), [((1, 0), 0)])

    def test_a_place_twice(self):
        rows = [((3, 0), 2), ((2, 1), 1), ((1, 2), 0)]
        for row in rows + [((3, 0), 3), ((2, 1), 5)]:
            self.not_shown(shows_yes, pair(), (3, 0), ("total", 1), rows + [row], [row] + rows)
        self.not_shown(shows_yes, pair(), (1, 0), ("total", 1), [((1, 0), 0), ((1, 0), 0)])

    def test_a_successor_is_missing(self):
        goal = ("answer", 1)
        self.shown(shows_yes, forked(), (1, 1, 0), goal, [((1, 1, 0), 1), ((0, 0, 2), 0), ((1, 0, 1), 0)])
        self.not_shown(shows_yes, forked(), (1, 1, 0), goal, [((1, 1, 0), 1), ((0, 0, 2), 0)],
                       [((1, 1, 0), 1), ((1, 0, 1), 0)], [((1, 1, 0), 0), ((1, 0, 1), 0)], [((1, 1, 0), 0)])

    def test_a_successor_of_another_place_is_missing(self):
        rows = [((1, 0, 1), 0), ((1, 1, 0), 0)]
        self.not_shown(shows_yes, forked(), (1, 0, 1), ("answer", 1), rows)
        self.shown(shows_yes, forked(), (1, 0, 1), ("answer", 1), rows + [((0, 0, 2), 0)])

    def test_a_negative_rank(self):
        self.not_shown(shows_yes, pair(), (1, 2), ("total", 1), [((1, 2), -1)])
        self.not_shown(shows_yes, pair(), (2, 1), ("total", 1), [((2, 1), 0), ((1, 2), -1)])
        self.not_shown(shows_yes, pair(), (2, 1), ("total", 1), [((2, 1), 1), ((1, 2), -1)])
        self.not_shown(shows_yes, pair(), (2, 1), ("total", 1), [((2, 1), -1), ((1, 2), -2)])
        self.not_shown(shows_yes, pair(), (1, 2), ("total", 1), [((1, 2), 0), ((1, 0), -1)])

    def test_the_rank_0_at_a_place_that_is_not_right(self):
        self.not_shown(shows_yes, pair(), (1, 2), ("total", 2), [((1, 2), 0)])
        self.not_shown(shows_yes, pair(), (2, 1), ("total", 1), [((2, 1), 0), ((1, 2), 0)])
        self.not_shown(shows_yes, pair(), (1, 0), ("total", 1), [((1, 0), 0), ((2, 0), 0), ((1, 1), 0)])
        self.shown(shows_yes, pair(), (1, 0), ("total", 1), [((1, 0), 0), ((2, 0), 1), ((1, 1), 0)])

    def test_a_successor_of_the_rank_0_with_another_rank(self):
        goal = ("answer", 1)
        self.not_shown(shows_yes, swinging(), (1, 1, 0), goal, [((1, 1, 0), 0), ((1, 0, 1), 1)],
                       [((1, 1, 0), 1), ((1, 0, 1), 0)])

    def test_a_rank_above_0_without_a_smaller_one_next_to_it(self):
        self.not_shown(shows_yes, pair(), (1, 2), ("total", 1), [((1, 2), 1)])
        self.not_shown(shows_yes, pair(), (2, 1), ("total", 1), [((2, 1), 1), ((1, 2), 1)])
        goal = ("answer", 1)
        self.not_shown(shows_yes, swinging(), (1, 1, 0), goal, [((1, 1, 0), 1), ((1, 0, 1), 1)],
                       [((1, 1, 0), 1), ((1, 0, 1), 2)])
        self.not_shown(shows_yes, pair(), (1, 0), ("total", 1), [((1, 0), 0), ((0, 1), 1)])

    def test_places_that_do_not_fit(self):
        rows = [((3, 0), 2), ((2, 1), 1), ((1, 2), 0)]
        for place in [(), (1,), (1, 0, 0), (1, 2, 0), (-1, 2), (1, -1), (2, -1), (10 ** 30, -(10 ** 30))]:
            for rank in [0, 1, 3]:
                self.not_shown(shows_yes, pair(), (3, 0), ("total", 1), rows + [(place, rank)], [(place, rank)] + rows)
            self.not_shown(shows_yes, pair(), (0, 0), ("answer", 1), [((0, 0), 0), (place, 0)])

    def test_places_of_other_sizes(self):
        rows = [((3, 0), 2), ((2, 1), 1), ((1, 2), 0)]
        self.shown(shows_yes, pair(), (3, 0), ("total", 1), rows + [((1, 10 ** 29), 0), ((2, 8), 4), ((1, 9), 0)])

    def test_papers_stay_as_they_are(self):
        for paper in [[((3, 0), 2), ((2, 1), 1), ((1, 2), 0)], [((3, 0), 2), ((3, 0), 2)], []]:
            before = copy.deepcopy(paper)
            shows_yes(pair(), (3, 0), ("total", 1), paper)
            self.assertEqual(paper, before)


class NoTest(PaperTest):
    def test_right_papers(self):
        self.shown(shows_no, pair(), (2, 0), ("answer", 1), ([(0, 0)], [(1, 1)]))
        self.shown(shows_no, pair(), (3, 0), ("answer", 1), ([(0, 0)], [(2, 1), (1, 2)]))
        self.shown(shows_no, pair(), (3, 0), ("total", 2), ([], [(1, 2), (3, 0), (2, 1)]),
                   ([(0, 0), (0, 0)], [(1, 2)]), ([(0, 0)], [(3, 0), (2, 1), (1, 2)]))

    def test_the_empty_run(self):
        self.shown(shows_no, pair(), (1, 1), ("answer", 1), ([], [(1, 1)]))
        self.not_shown(shows_no, pair(), (2, 0), ("answer", 1), ([], [(1, 1)]))

    def test_meetings_that_change_nothing(self):
        run_of_four = [(0, 0), (0, 1), (1, 0), (0, 1)]
        self.shown(shows_no, pair(), (2, 0), ("answer", 1), (run_of_four, [(1, 1)]))

    def test_one_wrong_place_is_enough(self):
        protocol = Rulebook(["a", "s", "t"], [], [], [("a", "s", "a", "t"), ("a", "t", "a", "s")], [1, 1, 0])
        self.shown(shows_no, protocol, (1, 1, 0), ("answer", 1), ([], [(1, 1, 0), (1, 0, 1)]),
                   ([(0, 1)], [(1, 0, 1), (1, 1, 0)]))

    def test_a_run_that_is_not_possible(self):
        for meeting in [(0, 1), (1, 0), (1, 1), (0, 2), (2, 0), (2, 2), (-1, 0), (0, -1), (-2, 0), (-2, -2), (-1, -1),
                        (0, 10 ** 30), (-(10 ** 30), 0)]:
            self.not_shown(shows_no, pair(), (2, 0), ("total", 7), ([meeting], [(2, 0), (1, 1)]))
        for meeting in [(0, 0), (1, 1), (0, 2), (-1, 0), (-2, 1), (0, -1)]:
            paper = ([(0, 0), meeting, (0, 1)], [(2, 0), (1, 1)])
            self.not_shown(shows_no, pair(), (2, 0), ("total", 7), paper)

    def test_a_run_to_elsewhere(self):
        self.not_shown(shows_no, pair(), (3, 0), ("total", 2), ([(0, 0)], [(1, 2)]), ([], [(2, 1), (1, 2)]),
                       ([(0, 0), (0, 0)], [(2, 0), (1, 1)]))

    def test_the_empty_trap(self):
        self.not_shown(shows_no, pair(), (2, 0), ("answer", 1), ([(0, 0)], []), ([], []))

    def test_a_place_twice(self):
        self.not_shown(shows_no, pair(), (2, 0), ("answer", 1), ([(0, 0)], [(1, 1), (1, 1)]))
        self.not_shown(shows_no, pair(), (3, 0), ("answer", 1), ([(0, 0)], [(2, 1), (1, 2), (2, 1)]))

    def test_a_way_out_of_the_trap(self):
        self.not_shown(shows_no, pair(), (3, 0), ("total", 1), ([], [(3, 0)]), ([(0, 0)], [(2, 1)]))
        self.not_shown(shows_no, pair(), (3, 0), ("total", 0), ([], [(3, 0), (2, 1)]))
        self.not_shown(shows_no, pair(), (1, 2), ("total", 0), ([], [(1, 2), (2, 3)]))

    def test_no_way_to_a_wrong_place(self):
        self.not_shown(shows_no, pair(), (1, 2), ("total", 1), ([], [(1, 2)]))
        self.not_shown(shows_no, pair(), (3, 0), ("total", 1), ([(0, 0)], [(2, 1), (1, 2)]))
        # All is well round (1, 1), but from (0, 2) no wrong place can be reached.
        self.not_shown(shows_no, pair(), (1, 1), ("answer", 0), ([], [(1, 1), (0, 2)]))
        self.shown(shows_no, pair(), (1, 1), ("answer", 0), ([], [(1, 1), (1, 2)]))

    def test_a_trap_of_which_only_the_beginning_is_wrong(self):
        protocol = branching([0, 1, 1, 1, 1, 1])
        trap = [(2, 0, 0, 0, 0, 0), (0, 1, 1, 0, 0, 0), (0, 0, 0, 0, 2, 0), (0, 0, 0, 2, 0, 0), (0, 0, 0, 1, 0, 1)]
        self.not_shown(shows_no, protocol, trap[0], ("answer", 1), ([], trap))

    def test_places_that_do_not_fit(self):
        for place in [(), (1,), (1, 1, 0), (1, 1, 1), (-1, 3), (3, -1), (10 ** 30, -(10 ** 30))]:
            self.not_shown(shows_no, pair(), (2, 0), ("answer", 1), ([(0, 0)], [(1, 1), place]),
                           ([(0, 0)], [place, (1, 1)]), ([(0, 0)], [place]))

    def test_papers_stay_as_they_are(self):
        for paper in [([(0, 0)], [(1, 1)]), ([(0, 7)], [(1, 1)]), ([], [(2, 0), (2, 0)])]:
            before = copy.deepcopy(paper)
            shows_no(pair(), (2, 0), ("answer", 1), paper)
            self.assertEqual(paper, before)


class ChangedPaperTest(unittest.TestCase):
    """Papers that are changed a little are judged as the points say, word by word."""

    def changed_place(self, draw, place):
        counts = list(place)
        kind = draw.randrange(4)
        if kind == 0:
            return tuple(counts + [0])
        if kind == 1 and counts:
            return tuple(counts[:-1])
        counts[draw.randrange(len(counts))] += draw.choice([-1, 1])
        counts[draw.randrange(len(counts))] += draw.choice([-1, 1])
        return tuple(counts)

    def changed(self, draw, rows, change):
        rows = list(rows)
        kind = draw.randrange(4)
        at = draw.randrange(len(rows))
        if kind == 0:
            del rows[at]
        elif kind == 1:
            rows.insert(draw.randrange(len(rows)), rows[at])
        else:
            rows[at] = change(rows[at])
        return rows

    def test_papers(self):
        draw = random.Random(12)
        seen = {"yes": set(), "no": set()}

        def change_row(row):
            if draw.random() < 0.3:
                return (self.changed_place(draw, row[0]), row[1])
            return (row[0], row[1] + draw.choice([-2, -1, 1, 2]))

        def change_meeting(_):
            return (draw.randint(-1, 4), draw.randint(-1, 4))

        for seed in range(100):
            protocol = drawn_protocol(seed, 3)
            place = (draw.randint(1, 3), draw.randint(0, 2), draw.randint(0, 1))
            for goal in goals_for(explore(protocol, place)):
                told, paper = check(protocol, place, goal)
                for _ in range(10):
                    if told == "yes":
                        other = self.changed(draw, paper, change_row)
                        found = shows_yes(protocol, place, goal, other)
                        self.assertIs(found, naive_yes(protocol, place, goal, other), (seed, other))
                    else:
                        way, trap = paper
                        if way and draw.random() < 0.3:
                            way = self.changed(draw, way, change_meeting)
                        else:
                            trap = self.changed(draw, trap, lambda row: self.changed_place(draw, row))
                        found = shows_no(protocol, place, goal, (way, trap))
                        self.assertIs(found, naive_no(protocol, place, goal, (way, trap)), (seed, way, trap))
                    seen[told].add(found)
        self.assertEqual(seen, {"yes": {True, False}, "no": {True, False}})


class CheckTest(unittest.TestCase):
    def test_document(self):
        told = check(pair(), (3, 0), ("total", 1))
        self.assertEqual(told, ("yes", [((3, 0), 2), ((2, 1), 1), ((1, 2), 0)]))
        self.assertEqual(check(pair(), (2, 0), ("answer", 1)), ("no", ([(0, 0)], [(1, 1)])))

    def test_no_meeting(self):
        self.assertEqual(check(pair(), (0, 0), ("answer", 5)), ("yes", [((0, 0), 0)]))
        self.assertEqual(check(pair(), (0, 0), ("total", 5)), ("no", ([], [(0, 0)])))
        self.assertEqual(check(pair(), (1, 0), ("answer", 1)), ("yes", [((1, 0), 0)]))
        self.assertEqual(check(pair(), (1, 0), ("answer", 0)), ("no", ([], [(1, 0)])))
        self.assertEqual(check(EMPTY, (), ("total", 0)), ("yes", [((), 0)]))

    def test_right_from_the_beginning(self):
        told = check(swinging(), (1, 1, 0), ("answer", 1))
        self.assertEqual(told, ("yes", [((1, 1, 0), 0), ((1, 0, 1), 0)]))

    def test_a_right_place_that_is_not_safe(self):
        # Right are (2, 0, ..) and the bottoms; what lies between is not.
        told = check(branching([1, 0, 0, 1, 1, 1]), (2, 0, 0, 0, 0, 0), ("answer", 1))
        places = [(2, 0, 0, 0, 0, 0), (0, 1, 1, 0, 0, 0), (0, 0, 0, 0, 2, 0), (0, 0, 0, 2, 0, 0), (0, 0, 0, 1, 0, 1)]
        self.assertEqual(told, ("yes", list(zip(places, [2, 1, 0, 0, 0]))))

    def test_ranks_are_the_smallest(self):
        # The way through (1, 2, 0, 0) is longer than the one that the exchanged meeting takes.
        rules = [("a", "a", "b", "a"), ("a", "b", "d", "d"), ("b", "b", "b", "c"), ("b", "c", "d", "d"),
                 ("a", "c", "d", "d"), ("d", "a", "d", "d"), ("d", "b", "d", "d"), ("d", "c", "d", "d")]
        protocol = Rulebook(list("abcd"), [("x", "a")], [], rules, [0, 0, 0, 1])
        told, paper = check(protocol, (4, 0, 0, 0), ("answer", 1))
        self.assertEqual(told, "yes")
        self.assertEqual(dict(paper)[(4, 0, 0, 0)], 4)
        self.assertEqual([rank for _, rank in paper], naive_ranks(explore(protocol, (4, 0, 0, 0)), ("answer", 1)))

    def test_the_first_bottom_has_a_wrong_place(self):
        told = check(branching([1, 1, 1, 1, 0, 1]), (2, 0, 0, 0, 0, 0), ("answer", 1))
        self.assertEqual(told, ("no", ([(0, 0), (2, 1)], [(0, 0, 0, 0, 2, 0)])))

    def test_only_a_later_bottom_has_a_wrong_place(self):
        trap = [(0, 0, 0, 2, 0, 0), (0, 0, 0, 1, 0, 1)]
        for outputs in [[1, 1, 1, 0, 1, 1], [1, 1, 1, 1, 1, 0], [0, 0, 0, 0, 1, 0]]:
            told = check(branching(outputs), (2, 0, 0, 0, 0, 0), ("answer", 1))
            self.assertEqual(told, ("no", ([(0, 0), (1, 2)], trap)))

    def test_both_bottoms_have_a_wrong_place(self):
        told = check(branching([1, 1, 1, 0, 0, 0]), (2, 0, 0, 0, 0, 0), ("answer", 1))
        self.assertEqual(told, ("no", ([(0, 0), (2, 1)], [(0, 0, 0, 0, 2, 0)])))

    def test_wrong_places_that_are_left_do_no_harm(self):
        told, paper = check(branching([0, 0, 0, 1, 1, 1]), (2, 0, 0, 0, 0, 0), ("answer", 1))
        self.assertEqual([told, [rank for _, rank in paper]], ["yes", [2, 1, 0, 0, 0]])

    def test_limits(self):
        self.assertEqual(check(pair(), (3, 0), ("total", 1), limit=3)[0], "yes")
        self.assertEqual(check(pair(), (2, 0), ("answer", 1), limit=2)[0], "no")
        self.assertEqual(check(pair(), (1, 0), ("total", 1), limit=1)[0], "yes")
        for place, limit in [((3, 0), 2), ((3, 0), 1), ((2, 0), 1)]:
            for goal in [("total", 1), ("answer", 1)]:
                with self.assertRaises(TooLarge) as caught:
                    check(pair(), place, goal, limit=limit)
                self.assertEqual(caught.exception.limit, limit)

    def test_the_limit_of_2000(self):
        told, paper = check(pair(), (2000, 0), ("total", 1))
        self.assertEqual([told, paper[0], len(paper)], ["yes", ((2000, 0), 1999), 2000])
        self.assertTrue(shows_yes(pair(), (2000, 0), ("total", 1), paper))
        with self.assertRaises(TooLarge) as caught:
            check(pair(), (2001, 0), ("total", 1))
        self.assertEqual(caught.exception.limit, 2000)

    def test_places_that_do_not_fit(self):
        for place in [(), (3,), (3, 0, 0), (-1, 4), (4, -1)]:
            with self.assertRaises(WrongCounts):
                check(pair(), place, ("total", 1))
            with self.assertRaises(WrongCounts):
                check(pair(), place, ("answer", 1), limit=1)

    def test_drawn_protocols(self):
        draw = random.Random(11)
        answers = []
        for seed in range(150):
            protocol = drawn_protocol(seed, 3 + seed % 2)
            place = tuple([draw.randint(0, 2) for _ in protocol.states])
            graph = explore(protocol, place)
            for goal in goals_for(graph):
                told, paper = check(protocol, place, goal)
                answers.append(told)
                wrong = [
                    region for region in bottoms(graph)
                    if not all(is_right(protocol, graph.place(number), goal) for number in region)
                ]
                if told == "yes":
                    self.assertEqual(wrong, [])
                    places = [graph.place(number) for number in range(len(graph))]
                    self.assertEqual(paper, list(zip(places, naive_ranks(graph, goal))))
                    self.assertTrue(shows_yes(protocol, place, goal, paper))
                    self.assertTrue(naive_yes(protocol, place, goal, paper))
                else:
                    self.assertEqual(told, "no")
                    self.assertEqual(paper[0], graph.way_to(wrong[0][0]))
                    self.assertEqual(paper[1], [graph.place(number) for number in wrong[0]])
                    self.assertTrue(shows_no(protocol, place, goal, paper))
                    self.assertTrue(naive_no(protocol, place, goal, paper))
        self.assertGreater(min(answers.count("yes"), answers.count("no")), 100)

    def test_not_both_papers(self):
        """A paper for no is never accepted where yes is answered, nor the other way round."""
        for seed in range(60):
            protocol = drawn_protocol(seed, 3)
            graph = explore(protocol, (3, 0, 0))
            for goal in goals_for(graph):
                told, paper = check(protocol, (3, 0, 0), goal)
                if told == "yes":
                    traps = [[graph.place(number) for number in region] for region in bottoms(graph)]
                    for region, trap in zip(bottoms(graph), traps):
                        self.assertFalse(shows_no(protocol, (3, 0, 0), goal, (graph.way_to(region[0]), trap)))
                else:
                    ranks = [rank or 0 for rank in naive_ranks(graph, goal)]
                    rows = [(graph.place(number), rank) for number, rank in enumerate(ranks)]
                    self.assertFalse(shows_yes(protocol, (3, 0, 0), goal, rows))


def naive_failure(protocol, formula, greatest):
    """Point 26, by the plain list of all counts."""
    names = [name for name, _ in protocol.inputs]
    lists = sorted(counts_up_to(len(names), greatest), key=lambda counts: (sum(counts), counts))
    for counts in lists:
        goal = ("answer", int(answer(formula, dict(zip(names, counts)))))
        if check(protocol, protocol.first_place(counts), goal)[0] == "no":
            return counts
    return None


class FirstFailureTest(unittest.TestCase):
    def test_none(self):
        for text in ["x + -1 * y >= 1", "x = 1 mod 2", "x >= 2 or y < 1", "true", "not false"]:
            self.assertIsNone(first_failure(compile_text(text), parse_formula(text), 4))

    def test_no_agent(self):
        # Without agents every answer is right, but leaders are always there.
        protocol = Rulebook(["a"], [("x", "a")], [], [], [0])
        self.assertEqual(first_failure(protocol, TRUE, 3), [1])
        led = Rulebook(["a"], [("x", "a"), ("y", "a")], ["a"], [], [0])
        self.assertEqual(first_failure(led, TRUE, 3), [0, 0])
        self.assertEqual(first_failure(led, TRUE, 0), [0, 0])
        self.assertIsNone(first_failure(led, FALSE, 3))
        self.assertEqual(first_failure(led, least(0, x=1), 3), [0, 0])

    def test_one_agent(self):
        protocol = Rulebook(["a", "b"], [("x", "a"), ("y", "b")], [], [], [0, 1])
        self.assertEqual(first_failure(protocol, least(1, x=1), 3), [0, 1])
        self.assertEqual(first_failure(protocol, least(2, y=1), 3), [0, 1])
        self.assertEqual(first_failure(protocol, ("or", least(1, y=1), least(1, x=1)), 3), [1, 0])

    def test_the_size_0(self):
        protocol = Rulebook(["a"], [("x", "a")], [], [], [0])
        self.assertIsNone(first_failure(protocol, TRUE, 0))
        self.assertEqual(first_failure(protocol, TRUE, 1), [1])

    def test_a_failure_just_above_the_size(self):
        protocol = compile_text("x >= 2")
        for bound in range(3, 6):
            self.assertIsNone(first_failure(protocol, least(bound, x=1), 1))
            self.assertEqual(first_failure(protocol, least(bound, x=1), 2), [2])
        self.assertIsNone(first_failure(protocol, ("and", least(2, x=1), least(-4, x=-1)), 4))
        self.assertEqual(first_failure(protocol, ("and", least(2, x=1), least(-4, x=-1)), 5), [5])

    def test_the_order_of_the_lists(self):
        protocol = Rulebook(["a"], [("z", "a"), ("b", "a"), ("x", "a")], [], [], [0])
        self.assertEqual(first_failure(protocol, least(1, b=1, x=1, z=1), 3), [0, 0, 1])
        self.assertEqual(first_failure(protocol, least(1, b=1, z=1), 3), [0, 1, 0])
        self.assertEqual(first_failure(protocol, least(2, b=1, z=1), 3), [0, 2, 0])
        self.assertEqual(first_failure(protocol, least(1, z=1), 3), [1, 0, 0])
        self.assertEqual(first_failure(protocol, ("and", least(1, z=1), least(1, x=1)), 3), [1, 0, 1])
        self.assertEqual(first_failure(protocol, ("or", least(1, z=1), least(2, x=1)), 3), [1, 0, 0])

    def test_inputs_that_are_not_in_the_formula(self):
        protocol = compile_text("x + y + z >= 2")
        self.assertEqual(first_failure(protocol, least(2, y=1), 3), [0, 0, 2])
        self.assertEqual(first_failure(protocol, FALSE, 3), [0, 0, 2])
        self.assertEqual(first_failure(protocol, ("not", rest(0, 3, x=1)), 3), [1, 0, 0])

    def test_no_inputs(self):
        led = Rulebook(["a"], [], ["a", "a"], [], [1])
        self.assertIsNone(first_failure(led, TRUE, 5))
        self.assertEqual(first_failure(led, FALSE, 5), [])
        self.assertEqual(first_failure(led, FALSE, 0), [])
        self.assertIsNone(first_failure(EMPTY, FALSE, 5))

    def test_majority(self):
        formula = least(1, a=1, b=-1)
        self.assertEqual(first_failure(majority(), formula, 5), naive_failure(majority(), formula, 5))
        self.assertIsNone(first_failure(majority(), formula, 3))
        self.assertEqual(first_failure(majority(), formula, 4), [2, 2])

    def test_limits(self):
        with self.assertRaises(TooLarge) as caught:
            first_failure(pair(), least(1, x=1), 2, limit=1)
        self.assertEqual(caught.exception.limit, 1)
        self.assertEqual(first_failure(pair(), least(1, x=1), 2, limit=2), [2])
        # A failure that comes before the limit is passed is found.
        self.assertEqual(first_failure(pair(), FALSE, 5, limit=1), [1])
        self.assertIsNone(first_failure(pair(), least(1, x=1), 1, limit=1))

    def test_the_limit_of_2000(self):
        states = [f"s{number}" for number in range(70)]
        rules = [(state, other, following, other) for state, following in zip(states, states[1:]) for other in states]
        protocol = Rulebook(states, [("x", "s0")], [], rules, [1] * 70)
        # Two agents can come to 70 * 71 / 2 places.
        with self.assertRaises(TooLarge) as caught:
            first_failure(protocol, TRUE, 2)
        self.assertEqual(caught.exception.limit, 2000)
        self.assertIsNone(first_failure(protocol, TRUE, 2, limit=3000))

    def test_drawn_protocols(self):
        draw = random.Random(13)
        found = []
        for seed in range(60):
            plain = drawn_protocol(seed, 3)
            inputs = [("x", "s0"), ("y", "s1"), ("z", "s2")][:draw.randint(1, 3)]
            outputs = [draw.choice([0, 1, 1]) for _ in plain.states]
            protocol = Rulebook(plain.states, inputs, [], plain.rules, outputs)
            formula = draw.choice([least(1, x=1), least(draw.randint(0, 1), x=draw.choice([-1, 1])), rest(1, 2, x=1)])
            found.append(first_failure(protocol, formula, 3))
            self.assertEqual(found[-1], naive_failure(protocol, formula, 3), seed)
        self.assertGreater(len({tuple(counts or []) for counts in found}), 5)

    def test_the_counts_are_those_of_a_place(self):
        protocol = compile_formula(least(2, x=1))
        counts = first_failure(protocol, least(3, x=1), 4)
        self.assertIsInstance(counts, list)
        self.assertEqual(size(protocol.first_place(counts)), 2)


if __name__ == "__main__":
    unittest.main()

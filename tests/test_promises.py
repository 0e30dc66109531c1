"""The promises over several modules, by small cases that are followed through.

Points 21, 30, 31, 33, 43, 48, 50, 58, 63, 66, 67, 69 and 71.
"""

import random
import unittest
from itertools import product

from mingle.adversaries import delay
from mingle.bottoms import bottoms
from mingle.checking import check, first_failure, keeps
from mingle.compiling import compile_formula, compile_text
from mingle.coverage import can_cover, covers, origins, smallest_beginning
from mingle.crowds import crowd_of, follow, place_of
from mingle.formulas import answer, variables
from mingle.formulatext import format_formula, parse_formula
from mingle.functions import compile_function, function_variables, value
from mingle.functiontext import parse_function
from mingle.graphs import explore
from mingle.joining import joined
from mingle.layers import flattened, layers
from mingle.maps import find_map, find_twin_map, image_of, is_map
from mingle.merging import classes, merged, renamed, trimmed
from mingle.papers import format_paper, is_accepted
from mingle.places import after, meetings, outputs_in, total_output
from mingle.protocols import Rulebook
from mingle.protocoltext import format_protocol
from mingle.questions import at_least, exactly
from mingle.quiet import agrees, find_sets, is_falling
from mingle.rewriting import first_difference, replaced, simplified
from mingle.tales import drawn
from mingle.tasks import run_task
from mingle.variants import doubling, fixed, is_silent, with_inputs
from samples import counts_up_to, drawn_rules, least, pair

FORMULAS = ["true", "false", "x >= 1", "x >= 3", "x + -1 * y >= 1", "x + -2 * y < 1", "x = 1 mod 2", "x + 2 * y = 0 mod 3",
            "not x = 0 mod 2", "x >= 2 and y = 0 mod 2", "x = 2", "x >= 1 or y >= 2", "not ( x >= 1 or y >= 1 )"]
FUNCTIONS = ["sum ( 2 * x + y )", "quotient ( x ) by 2", "quotient ( 3 * x + 2 * y ) by 4", "min ( x ) ( y )",
             "min ( x + 2 * y ) ( 3 * z )", "max ( x ) ( y )", "max ( 2 * x ) ( x + y )", "less ( x ) ( y )",
             "less ( 2 * x + y ) ( y )"]
GOALS = [("answer", 0), ("answer", 1), ("total", 0), ("total", 1), ("total", 2), ("total", 3)]


def small_counts(protocol, greatest):
    return counts_up_to(len(protocol.inputs), greatest)


def graph_for(protocol, counts):
    return explore(protocol, protocol.first_place(counts))


def ends(graph):
    """The places of the bottoms."""
    return [graph.place(number) for region in bottoms(graph) for number in region]


def kept_goals(protocol, counts):
    graph = graph_for(protocol, counts)
    return [goal for goal in GOALS if keeps(graph, goal)]


class PromisesTest(unittest.TestCase):
    def test_21_compiled_formulas(self):
        for text in FORMULAS:
            formula = parse_formula(text)
            protocol = compile_text(text)
            for counts in small_counts(protocol, 4):
                expected = int(answer(formula, dict(zip(variables(formula), counts))))
                for place in ends(graph_for(protocol, counts)):
                    self.assertIn(outputs_in(protocol, place), ([expected], []) if sum(counts) == 0 else ([expected],), text)
                    for first, second in meetings(protocol, place):
                        for state in protocol.meet(first, second):
                            self.assertEqual(protocol.outputs[state], expected)
                if sum(counts) == 1:
                    self.assertEqual(outputs_in(protocol, protocol.first_place(counts)), [expected])

    def test_30_compiled_functions(self):
        for text in FUNCTIONS:
            function = parse_function(text)
            protocol = compile_function(function)
            self.assertLessEqual(max(protocol.outputs), 9)
            for counts in small_counts(protocol, 4):
                expected = value(function, dict(zip(function_variables(function), counts)))
                graph = graph_for(protocol, counts)
                self.assertTrue(keeps(graph, ("total", expected)), text)
                for place in ends(graph):
                    self.assertEqual(total_output(protocol, place), expected)
                    for meeting in meetings(protocol, place):
                        self.assertEqual(total_output(protocol, after(protocol, place, meeting)), expected)

    def test_31_joined_protocols(self):
        for left, right in [("x >= 2", "x = 1 mod 2"), ("x = 0 mod 2", "x = 1 mod 3"), ("x >= 1", "x >= 3")]:
            first, second = compile_text(left), compile_text(right)
            for word, together in [("and", min), ("or", max), ("left", lambda n, m: n), ("right", lambda n, m: m)]:
                protocol = joined(first, second, word)
                for counts in small_counts(protocol, 4):
                    here, there = [[goal[1] for goal in kept_goals(part, counts) if goal[0] == "answer"] for part in (first, second)]
                    for number in [together(n, m) for n in here for m in there]:
                        self.assertTrue(keeps(graph_for(protocol, counts), ("answer", number)))
        joint = joined(compile_text("x >= 2"), compile_text("x = 1 mod 2"), "and")
        self.assertIsNone(first_failure(joint, parse_formula("x >= 2 and x = 1 mod 2"), 4))

    def test_33_merged_protocols(self):
        protocols = [compile_text(text) for text in FORMULAS[2:8]]
        protocols += [compile_function(parse_function(text)) for text in FUNCTIONS[:4]]
        protocols += [with_inputs(drawn_rules(seed, 4, 6), [("x", "s0"), ("y", "s1")]) for seed in range(20)]
        for protocol in protocols:
            for other in [merged(protocol), merged(trimmed(protocol))]:
                for counts in small_counts(protocol, 3):
                    self.assertEqual(kept_goals(other, counts), kept_goals(protocol, counts))

    def test_43_no_delay_helps(self):
        draw = random.Random(1)
        for text, goal in [("x + -1 * y >= 1", ("answer", 1)), ("x = 1 mod 2", ("answer", 1)), ("x >= 2", ("answer", 1))]:
            protocol = compile_text(text)
            counts = [3] + [1] * (len(protocol.inputs) - 1)
            crowd = crowd_of(protocol.first_place(counts))
            self.assertEqual(check(protocol, place_of(protocol, crowd), goal)[0], "yes")
            schedules = [delay(protocol, crowd, goal, many) for many in (1, 7, 30)]
            schedules += [drawn(seed, len(crowd), 12) for seed in range(10)]
            schedules += [[tuple(draw.sample(range(len(crowd)), 2)) for _ in range(9)] for _ in range(10)]
            for schedule in schedules:
                place = place_of(protocol, follow(protocol, crowd, schedule))
                word, paper = check(protocol, place, goal)
                self.assertEqual(word, "yes")
                self.assertIs(is_accepted(protocol, format_paper(protocol, place, goal, (word, paper))), True)
                side_by_side = flattened(layers(schedule))
                self.assertEqual(place_of(protocol, follow(protocol, crowd, side_by_side)), place)

    def test_48_populations_of_all_sizes(self):
        draw = random.Random(2)
        for seed in range(40):
            protocol = drawn_rules(seed, 3, 4)
            patterns = [tuple([draw.randint(0, 2) for _ in range(3)]) for _ in range(2)]
            found = origins(protocol, patterns)
            reached = {}
            for counts in counts_up_to(3, 4):
                graph = explore(protocol, tuple(counts))
                places = [graph.place(number) for number in range(len(graph))]
                expected = any([covers(place, pattern) for place in places for pattern in patterns])
                self.assertIs(can_cover(protocol, tuple(counts), patterns), expected)
                self.assertIs(any([covers(counts, origin) for origin in found]), expected)
                reached[tuple(counts)] = expected
            for states in [[0], [1, 2], [0, 2]]:
                begun = [place for place, covered in reached.items()
                         if covered and all(place[state] == 0 for state in range(3) if state not in states)]
                if begun:
                    self.assertIsNotNone(smallest_beginning(protocol, states, patterns))

    def test_50_doubling_protocols(self):
        for exponent in [1, 2, 3]:
            protocol = doubling("x", exponent)
            for count in range(2 ** exponent + 3):
                expected = ("answer", 1 if count >= 2 ** exponent else 0)
                self.assertTrue(keeps(graph_for(protocol, [count]), expected))
                fixed_place = fixed(protocol, "x", count).first_place([]) if count <= 10 else protocol.first_place([count])
                self.assertEqual(check(protocol, fixed_place, expected)[0], "yes")

    def test_58_formulas_named_anew(self):
        formula = parse_formula("x + -1 * y >= 1 or x = 0 mod 3")
        other = replaced(formula, {"x": "y", "y": "x"})
        self.assertEqual(first_difference(formula, other, 4), {"x": 1, "y": 2})
        self.assertEqual(first_failure(compile_formula(formula), other, 3), [1, 2])
        back = replaced(other, {"x": "y", "y": "x"})
        self.assertEqual([back, first_difference(formula, back, 6)], [formula, None])
        for first, second in product([parse_formula(text) for text in FORMULAS[4:8]], repeat=2):
            if variables(first) == variables(second):
                found = first_difference(first, second, 3)
                failure = first_failure(compile_formula(first), second, 3)
                # Where no agent is there, no protocol fails.
                if found is None or sum(found.values()) > 0:
                    self.assertEqual(failure, None if found is None else list(found.values()))
        for text in FORMULAS:
            shorter = simplified(parse_formula(text))
            self.assertIsNone(first_difference(parse_formula(text), shorter, 5))
            self.assertEqual(parse_formula(format_formula(shorter)), shorter)

    def test_63_maps(self):
        protocols = [compile_text(text) for text in FORMULAS[2:8]]
        protocols += [with_inputs(drawn_rules(seed, 4, 5), [("x", "s0")]) for seed in range(30)]
        for protocol in protocols:
            small = merged(protocol)
            kinds = {state: number for number, members in enumerate(classes(protocol)) for state in members}
            told = [tuple([kinds[state] for state in range(len(protocol))]), find_map(protocol, small)]
            for images in told:
                self.assertIs(is_map(protocol, small, images), True)
                for counts in small_counts(protocol, 3):
                    self.assertEqual(kept_goals(protocol, counts), kept_goals(small, counts))
                    self.carries(protocol, small, images, protocol.first_place(counts))
            twin = renamed(protocol, [f"t{number}" for number in range(len(protocol))])
            self.assertEqual(sorted(find_twin_map(protocol, twin)), list(range(len(protocol))))

    def carries(self, first, second, images, place):
        """The runs from a place are carried to runs from its image, and those from there come from such runs."""
        graph = explore(first, place)
        other = explore(second, image_of(place, images, len(second)))
        found = set()
        for number in range(len(graph)):
            here = graph.place(number)
            image = image_of(here, images, len(second))
            found.add(image)
            self.assertIsNotNone(other.number_of(image))
            for meeting in meetings(first, here):
                carried = (images[meeting[0]], images[meeting[1]])
                following = image_of(after(first, here, meeting), images, len(second))
                self.assertEqual(after(second, image, carried), following)
        self.assertEqual(len(found), len(other))

    def test_66_and_67_questions_about_values(self):
        for text in FUNCTIONS:
            function = parse_function(text)
            protocol = compile_function(function)
            for counts in small_counts(protocol, 3):
                number = value(function, dict(zip(function_variables(function), counts)))
                self.assertTrue(keeps(graph_for(protocol, counts), ("total", number)))
                for bound in range(-1, 5):
                    named = dict(zip(function_variables(function), counts))
                    self.assertIs(answer(at_least(function, bound), named), number >= bound)
                    self.assertIs(answer(exactly(function, bound), named), number == bound)
        for text, bound in [("min ( x ) ( y )", 1), ("less ( x ) ( y )", 2), ("quotient ( x + y ) by 3", 1), ("max ( x ) ( y )", 2)]:
            function = parse_function(text)
            at_bound, exact = compile_formula(at_least(function, bound)), compile_formula(exactly(function, bound))
            for counts in small_counts(at_bound, 3):
                number = value(function, dict(zip(function_variables(function), counts)))
                self.assertTrue(keeps(graph_for(at_bound, counts), ("answer", int(number >= bound))))
                self.assertTrue(keeps(graph_for(exact, counts), ("answer", int(number == bound))))

    def test_69_and_71_falling_protocols(self):
        told = set()
        protocols = [pair(), doubling("x", 2), compile_function(parse_function("min ( x ) ( y )"))]
        protocols += [Rulebook(part.states, [], [], part.rules, [seed % 2, 1, 0])
                      for seed, part in [(seed, drawn_rules(seed, 3, 4)) for seed in range(200)]]
        for protocol in protocols:
            sets = find_sets(protocol)
            if sets is None:
                continue
            self.assertIs(is_falling(protocol, sets), True)
            told.add(agrees(protocol))
            for counts in counts_up_to(len(protocol), 3):
                graph = explore(protocol, tuple(counts))
                for region in bottoms(graph):
                    place = graph.place(region[0])
                    self.assertEqual(len(region), 1)
                    self.assertIs(is_silent(protocol, place), True)
                    if agrees(protocol):
                        self.assertLessEqual(len(outputs_in(protocol, place)), 1)
        self.assertEqual(told, {True, False})

    def test_a_task_about_a_protocol_of_another_module(self):
        protocol = with_inputs(doubling("x", 2), [("a", "p0"), ("b", "p1")])
        text = "\n".join(["protocol", format_protocol(protocol), "end", "ask 1 1", "ask 2 1", "ask 0 2", "total 4 0"])
        self.assertEqual(run_task(text), ["answer 0", "answer 1", "answer 1", "total 4"])
        self.assertIsNone(first_failure(protocol, least(4, a=1, b=2), 5))


if __name__ == "__main__":
    unittest.main()

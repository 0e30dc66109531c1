"""Points 16, 20 and 21: compiled protocols, and what they decide."""

import random
import unittest

from mingle.bottoms import bottoms
from mingle.compiling import compile_formula, compile_text, marks_of
from mingle.errors import InvalidFormula, TooManyStates
from mingle.formulas import answer, variables
from mingle.formulatext import format_formula, parse_formula
from mingle.graphs import explore
from mingle.places import outputs_in, size
from mingle.protocols import Rulebook
from mingle.seeds import first_mark, mark_answer, meet_marks
from samples import FALSE, TRUE, counts_up_to, drawn_formula, least, many_variables, nested, rest

EMPTY = Rulebook([], [], [], [], [])
SEVERAL = [
    "x >= 1", "x >= 2", "x < 2", "x >= 0", "x >= -1", "-1 * x >= 0", "x + -1 * y >= 1", "x + -1 * y >= 0",
    "2 * x + -3 * y < 1", "x = 1 mod 2", "x + 2 * y = 0 mod 3", "-1 * x + y = 1 mod 3", "x = 2", "not x >= 2",
    "x >= 1 and y >= 1", "x >= 1 or y >= 1", "x = 1 mod 2 and y < 1", "x + -1 * y >= 1 or x = 0 mod 2",
    "not ( x >= 1 and not y >= 1 )", "true and x >= 1", "false or y = 1 mod 2", "not true or x >= 1",
    "x + y + z >= 3", "2 * x = 1 mod 2",
]


def naive_marks(formula):
    """The marks in the order of point 20: in each round all pairs of marks that were found before it."""
    found = []
    for name in variables(formula):
        if first_mark(formula, name) not in found:
            found.append(first_mark(formula, name))
    while True:
        before = list(found)
        for first in before:
            for second in before:
                for mark in meet_marks(formula, first, second):
                    if mark not in found:
                        found.append(mark)
        if found == before:
            return found


def naive_protocol(formula):
    """The compiled protocol as point 20 tells it, from its marks."""
    marks = naive_marks(formula)
    states = ["q" + str(number) for number in range(len(marks))]
    inputs = [(name, states[marks.index(first_mark(formula, name))]) for name in variables(formula)]
    rules = []
    for first in marks:
        for second in marks:
            third, fourth = meet_marks(formula, first, second)
            if (first, second) != (third, fourth):
                rules.append(tuple([states[marks.index(mark)] for mark in (first, second, third, fourth)]))
    return Rulebook(states, inputs, [], rules, [mark_answer(formula, mark) for mark in marks])


def small_formulas(seed, many):
    """Formulas whose protocols have few states."""
    draw = random.Random(seed)
    found = []
    while len(found) < many:
        formula = drawn_formula(draw, 3, ["x", "y", "z"][:draw.randint(1, 3)], 3)
        if len(naive_marks(formula)) <= 40:
            found.append(formula)
    return found


class DocumentTest(unittest.TestCase):
    def test_compile_text(self):
        protocol = compile_text("x = 1 mod 2")
        rules = (("q0", "q0", "q1", "q2"), ("q0", "q1", "q0", "q3"), ("q0", "q2", "q0", "q3"),
                 ("q1", "q0", "q0", "q3"), ("q1", "q1", "q1", "q2"), ("q1", "q3", "q1", "q2"),
                 ("q2", "q0", "q3", "q0"), ("q3", "q1", "q2", "q1"))
        self.assertEqual([protocol.inputs, protocol.outputs, protocol.rules], [(("x", "q0"),), (1, 0, 0, 1), rules])
        self.assertEqual([protocol.states, protocol.leaders], [("q0", "q1", "q2", "q3"), ()])


class MarksTest(unittest.TestCase):
    def test_rest(self):
        self.assertEqual(marks_of(rest(1, 2, x=1)), [(1, 1), (1, 0), (0, 0), (0, 1)])

    def test_least(self):
        first_round = [(1, 1, 2), (0, 1, 0), (1, 0, 0), (0, 0, 0), (1, 0, -2)]
        second_round = [(0, 1, 1), (0, 0, -1), (0, 1, 2), (0, 0, -2)]
        self.assertEqual(marks_of(least(1, x=1, y=-1)), [(1, 1, 1), (1, 0, -1), *first_round, *second_round])

    def test_first_marks_that_are_the_same(self):
        formula = least(1, x=1, y=1, z=-1)
        self.assertEqual(marks_of(formula)[:2], [(1, 1, 1), (1, 0, -1)])
        self.assertEqual(compile_formula(formula).inputs, (("x", "q0"), ("y", "q0"), ("z", "q1")))

    def test_variables_that_are_only_in_one_part(self):
        formula = ("and", least(1, y=1), rest(0, 2, x=1))
        self.assertEqual(marks_of(formula)[:2], [((1, 0, 0), (1, 1)), ((1, 1, 1), (1, 0))])
        self.assertEqual(compile_formula(formula).inputs, (("x", "q0"), ("y", "q1")))

    def test_no_variables(self):
        for formula in [TRUE, FALSE, ("not", TRUE), ("and", TRUE, FALSE), nested(8)]:
            self.assertEqual(marks_of(formula), [])
            self.assertEqual(compile_formula(formula), EMPTY)
        self.assertEqual(compile_text("true or false"), EMPTY)

    def test_order(self):
        for formula in small_formulas(1, 40) + [least(2, x=2, y=-1), rest(3, 7, x=3, y=2)]:
            self.assertEqual(marks_of(formula), naive_marks(formula), formula)

    def test_the_deepest_marks(self):
        formula = rest(1, 2, x=1)
        for word in ["and", "or", "and", "or", "and", "or", "and"]:
            formula = (word, formula, TRUE)
        marks = marks_of(formula)
        self.assertEqual([len(marks), len(compile_formula(formula))], [4, 4])
        self.assertEqual(marks, naive_marks(formula))

    def test_the_list_is_new(self):
        formula = rest(1, 2, x=1)
        marks_of(formula).append(1)
        self.assertEqual(len(marks_of(formula)), 4)


class ProtocolTest(unittest.TestCase):
    def test_by_the_words_of_the_point(self):
        for formula in small_formulas(2, 25) + [least(2, x=2, y=-1), rest(3, 7, x=3, y=2)]:
            protocol = compile_formula(formula)
            expected = naive_protocol(formula)
            self.assertIsInstance(protocol, Rulebook)
            for field in ["states", "inputs", "leaders", "rules", "outputs"]:
                self.assertEqual(getattr(protocol, field), getattr(expected, field), formula)
            self.assertEqual(compile_text(format_formula(formula)), protocol)

    def test_outputs_are_integers(self):
        for text in ["x >= 1 and not y = 1 mod 2", "x < 2"]:
            self.assertEqual({type(output) for output in compile_text(text).outputs}, {int})

    def test_eight_variables(self):
        protocol = compile_formula(("not", least(1, **{f"v{number}": 1 for number in range(8)})))
        self.assertEqual(protocol.inputs, tuple([(f"v{number}", "q0") for number in range(8)]))

    def test_names_beyond_ten(self):
        protocol = compile_text("x = 0 mod 20")
        self.assertEqual(protocol.states, tuple([f"q{number}" for number in range(22)]))
        numbers = [(protocol.number(rule[0]), protocol.number(rule[1])) for rule in protocol.rules]
        self.assertEqual(numbers, sorted(set(numbers)))


class RefusedTest(unittest.TestCase):
    def test_400_states(self):
        text = "-4 * x >= -6 and 3 * x + -6 * y >= -19"
        self.assertEqual(len(marks_of(parse_formula(text))), 400)
        protocol = compile_text(text)
        self.assertEqual([len(protocol), protocol.states[399]], [400, "q399"])

    def test_more_states(self):
        # The first one would have 402 states.
        for text in ["9 * x = 0 mod 12 and 5 * x + -13 * y >= -15", "x >= 20 and y >= 20",
                     "x = 0 mod 20 and x + -1 * y >= 20"]:
            formula = parse_formula(text)
            for function, told in [(marks_of, formula), (compile_formula, formula), (compile_text, text)]:
                with self.assertRaises(TooManyStates) as caught:
                    function(told)
                self.assertEqual(caught.exception.limit, 400)

    def test_wrong_formulas(self):
        great = ("and", least(20, x=1), least(20, y=1))
        for formula in [least(21, x=1), ("least", (), 1), rest(2, 2, x=1), rest(0, 21, x=1), least(1, mod=1),
                        ("not", least(1, x=0)), nested(9), many_variables(9), ("or", great, least(21, x=1)),
                        nested(60)]:
            for function in [marks_of, compile_formula]:
                with self.assertRaises(InvalidFormula):
                    function(formula)

    def test_wrong_texts(self):
        for text in ["", "x", "x >= 21", "( true )", "x >= 1 and", "x >= 20 and y >= 20 and true", "x = 1 mod 1"]:
            with self.assertRaises(InvalidFormula):
                compile_text(text)


class DecidingTest(unittest.TestCase):
    """Point 21, by all places that can be reached."""

    def check(self, formula, greatest):
        protocol = compile_formula(formula)
        names = variables(formula)
        self.assertEqual([name for name, _ in protocol.inputs], names)
        for counts in counts_up_to(len(names), greatest):
            expected = int(answer(formula, dict(zip(names, counts))))
            graph = explore(protocol, protocol.first_place(counts), limit=20000)
            for region in bottoms(graph):
                for number in region:
                    found = outputs_in(protocol, graph.place(number))
                    self.assertEqual(found, [expected] if sum(counts) else [], (formula, counts))
            self.assertEqual(size(graph.place(0)), sum(counts))
            if sum(counts) == 1:
                self.assertEqual(outputs_in(protocol, graph.place(0)), [expected])

    def test_several(self):
        for text in SEVERAL:
            self.check(parse_formula(text), 4)

    def test_drawn_formulas(self):
        for formula in small_formulas(3, 25):
            self.check(formula, 3)

    def test_more_agents(self):
        for text in ["x >= 3", "x = 2 mod 3", "x < 3"]:
            self.check(parse_formula(text), 7)
        for text in ["x + -1 * y >= 1", "x >= 2 or x = 0 mod 3"]:
            self.check(parse_formula(text), 5)

    def test_a_great_population(self):
        draw = random.Random(10)
        formula = parse_formula("2 * x + -1 * y >= 3 and x + y = 1 mod 4")
        protocol = compile_formula(formula)
        for counts in [[20, 37], [20, 38], [19, 38], [21, 37]]:
            expected = int(answer(formula, {"x": counts[0], "y": counts[1]}))
            crowd = [protocol.number(state) for (_, state), count in zip(protocol.inputs, counts) for _ in range(count)]
            for _ in range(40000):
                first, second = draw.sample(range(len(crowd)), 2)
                crowd[first], crowd[second] = protocol.meet(crowd[first], crowd[second])
            self.assertEqual({protocol.outputs[state] for state in crowd}, {expected}, counts)


if __name__ == "__main__":
    unittest.main()

"""Points 27 to 30: functions, their values, and the protocols that compute them."""

import copy
import random
import unittest
from unittest import mock

from mingle.bottoms import bottoms
from mingle.checking import check
from mingle.errors import InvalidFunction, TooManyStates, UnknownName, WrongCounts
from mingle.functions import compile_function, function_marks, function_variables, is_function, value
from mingle.graphs import explore
from mingle.places import total_output
from mingle.protocols import Rulebook
from samples import counts_up_to

X = (("x", 1),)
Y = (("y", 1),)
PAIRS = ["min", "max", "less"]


def terms(**factors):
    return tuple(sorted(factors.items()))


def wholes(many, first=0):
    """Terms with so many variables."""
    return tuple([(f"v{number}", 1) for number in range(first, first + many)])


def with_terms(told):
    """Functions of all kinds with these terms, at each place where terms may stand."""
    found = [("sum", told), ("quotient", told, 3)]
    for word in PAIRS:
        found += [(word, told, Y), (word, X, told)]
    return found


def drawn_terms(draw, known, greatest):
    chosen = sorted(draw.sample(known, draw.randint(1, len(known))))
    return tuple([(name, draw.randint(1, greatest)) for name in chosen])


def drawn_function(draw, known, greatest=9):
    word = draw.choice(["sum", "quotient", *PAIRS])
    if word == "sum":
        return ("sum", drawn_terms(draw, known, greatest))
    if word == "quotient":
        return ("quotient", drawn_terms(draw, known, greatest), draw.randint(2, 20))
    return (word, drawn_terms(draw, known, greatest), drawn_terms(draw, known, greatest))


def naive_value(function, counts):
    sums = [sum([factor * counts[name] for name, factor in part]) for part in function[1:] if isinstance(part, tuple)]
    if function[0] == "sum":
        return sums[0]
    if function[0] == "quotient":
        return max([number for number in range(sums[0] + 1) if number * function[2] <= sums[0]])
    left, right = sums
    return {"min": min(sums), "max": max(sums), "less": left - right if left > right else 0}[function[0]]


def naive_first(function, name):
    """The first mark of a variable, by the words of point 29."""
    factors = [dict(part).get(name, 0) for part in function[1:] if isinstance(part, tuple)]
    if function[0] == "sum":
        return (factors[0],)
    if function[0] == "quotient":
        return (factors[0] % function[2], factors[0] // function[2])
    smaller = sorted(factors)[0]
    return (factors[0] - smaller, factors[1] - smaller, smaller)


def naive_meet(function, first, second):
    """What two marks become, by the words of point 29."""
    if function[0] == "sum":
        return (first, second)
    if function[0] == "quotient":
        if first[0] > 0 and second[0] > 0:
            rests = first[0] + second[0]
            greater = 1 if rests >= function[2] else 0
            return ((rests % function[2], first[1]), (0, second[1] + greater))
        return (first, second)
    (a, b, m), (c, d, n) = first, second
    x, y = min(a, d), min(c, b)
    return ((a - x, b - y, m + x), (c - y, d - x, n + y))


def naive_output(function, mark):
    return {"sum": mark[0], "quotient": mark[-1], "min": mark[-1], "less": mark[0], "max": sum(mark)}[function[0]]


def naive_protocol(function):
    """The marks and the compiled protocol, as points 20 and 29 tell them."""
    names = function_variables(function)
    marks = []
    for name in names:
        if naive_first(function, name) not in marks:
            marks.append(naive_first(function, name))
    while True:
        before = list(marks)
        for first in before:
            for second in before:
                for mark in naive_meet(function, first, second):
                    if mark not in marks:
                        marks.append(mark)
        if marks == before:
            break
    states = {mark: f"q{number}" for number, mark in enumerate(marks)}
    rules = []
    for first in marks:
        for second in marks:
            third, fourth = naive_meet(function, first, second)
            if (third, fourth) != (first, second):
                rules.append((states[first], states[second], states[third], states[fourth]))
    inputs = [(name, states[naive_first(function, name)]) for name in names]
    outputs = [naive_output(function, mark) for mark in marks]
    return marks, Rulebook(list(states.values()), inputs, [], rules, outputs)


class FunctionTest(unittest.TestCase):
    def right(self, *functions):
        for function in functions:
            self.assertIs(is_function(function), True, function)

    def wrong(self, *functions):
        for function in functions:
            self.assertIs(is_function(function), False, function)

    def test_right_ones(self):
        self.right(("sum", X), ("quotient", X, 2), ("min", X, Y), ("max", X, Y), ("less", X, Y))
        self.right(*with_terms(terms(a=1, b=9, c=5)))
        self.right(*[(word, terms(x=2, y=3), terms(x=1, y=9)) for word in PAIRS])
        self.right(*with_terms((("abcdefghijkl", 1), ("x1", 2))))

    def test_factors(self):
        for factor in [1, 9]:
            self.right(*with_terms((("a", 3), ("x", factor))), *with_terms((("x", factor),)))
        for factor in [0, 10, -1, 10 ** 29]:
            self.wrong(*with_terms((("a", 3), ("x", factor))), *with_terms((("x", factor),)),
                       *with_terms((("x", factor), ("z", 3))))

    def test_no_terms(self):
        self.wrong(*with_terms(()))
        self.wrong(*[(word, (), ()) for word in PAIRS])

    def test_terms_out_of_order(self):
        self.wrong(*with_terms((("b", 1), ("a", 1))))
        self.wrong(*with_terms((("a", 1), ("c", 1), ("b", 1))))
        self.wrong(*with_terms((("a2", 1), ("a10", 1))))
        self.right(*with_terms((("a10", 1), ("a2", 1))))

    def test_a_variable_twice(self):
        self.wrong(*with_terms((("a", 1), ("a", 1))))
        self.wrong(*with_terms((("a", 1), ("b", 1), ("b", 2))))
        self.right(*[(word, X, X) for word in PAIRS])

    def test_names(self):
        for name in ["", "X", "1x", "x_", "abcdefghijklm", "x y", "and", "or", "not", "true", "false", "mod"]:
            self.wrong(*with_terms(((name, 1),)))
        self.right(*with_terms((("min", 1), ("sum", 1))), *with_terms((("quotient", 2),)))

    def test_divisors(self):
        for divisor in [2, 3, 19, 20]:
            self.right(("quotient", X, divisor))
        for divisor in [1, 21, 0, -2, 10 ** 29]:
            self.wrong(("quotient", X, divisor))

    def test_many_variables(self):
        self.right(("sum", wholes(8)), ("quotient", wholes(8), 2))
        self.wrong(("sum", wholes(9)), ("quotient", wholes(9), 2))
        for word in PAIRS:
            self.right((word, wholes(4), wholes(4, 4)), (word, wholes(8), wholes(8)), (word, wholes(5), wholes(5, 3)),
                       (word, wholes(8), wholes(1)))
            self.wrong((word, wholes(4), wholes(5, 4)), (word, wholes(5), wholes(4, 5)), (word, wholes(9), wholes(1)),
                       (word, wholes(8), wholes(1, 8)))


class VariablesTest(unittest.TestCase):
    def test_each_kind(self):
        self.assertEqual(function_variables(("sum", terms(b=2, a=1))), ["a", "b"])
        self.assertEqual(function_variables(("quotient", terms(b=2, a=1), 7)), ["a", "b"])
        for word in PAIRS:
            self.assertEqual(function_variables((word, terms(z=1, b=2), terms(a=2, m=3))), ["a", "b", "m", "z"])
            self.assertEqual(function_variables((word, terms(a=1, b=2), terms(b=2, c=3))), ["a", "b", "c"])
            self.assertEqual(function_variables((word, X, X)), ["x"])


class ValueTest(unittest.TestCase):
    def test_document(self):
        self.assertEqual(value(("quotient", (("x", 2), ("y", 3)), 4), {"x": 1, "y": 3}), 2)

    def test_each_kind(self):
        counts = {"x": 5, "y": 4, "z": 0}
        for function, expected in [
            (("sum", terms(x=2, y=3)), 22), (("sum", terms(z=9)), 0), (("sum", terms(x=1, z=4)), 5),
            (("quotient", terms(x=1), 2), 2), (("quotient", terms(x=2), 5), 2), (("quotient", terms(y=2), 9), 0),
            (("quotient", terms(x=9, y=1), 7), 7), (("quotient", terms(z=1), 20), 0),
            (("min", X, Y), 4), (("min", Y, X), 4), (("min", terms(x=1, y=1), terms(x=2)), 9), (("min", X, X), 5),
            (("max", X, Y), 5), (("max", Y, X), 5), (("max", terms(x=1, y=1), terms(x=2)), 10),
            (("less", X, Y), 1), (("less", Y, X), 0), (("less", X, X), 0), (("less", terms(x=3), terms(x=1, y=1)), 6),
            (("less", terms(z=9), terms(x=9)), 0),
        ]:
            self.assertEqual(value(function, counts), expected, function)

    def test_great_counts(self):
        great = 10 ** 29
        counts = {"x": great, "y": great + 3}
        self.assertEqual(value(("sum", terms(x=9, y=1)), counts), 10 ** 30 + 3)
        self.assertEqual(value(("quotient", terms(x=1, y=1), 2), counts), great + 1)
        self.assertEqual(value(("min", X, Y), counts), great)
        self.assertEqual(value(("max", X, Y), counts), great + 3)
        self.assertEqual([value(("less", Y, X), counts), value(("less", X, Y), counts)], [3, 0])

    def test_a_variable_without_a_count(self):
        for function, counts, name in [
            (("sum", terms(x=1, y=1)), {"x": 1}, "y"), (("sum", terms(x=1, y=1)), {}, "x"),
            (("quotient", terms(x=1, y=1), 3), {"y": 1}, "x"), (("min", Y, X), {}, "x"), (("max", X, Y), {"x": 2}, "y"),
            (("less", terms(x=1, y=1), terms(a=1, y=2)), {"x": 2, "y": 1}, "a"),
        ]:
            with self.assertRaises(UnknownName) as caught:
                value(function, counts)
            self.assertEqual(caught.exception.name, name)

    def test_negative_counts(self):
        for function in with_terms(terms(x=1, y=1)):
            for counts in [{"x": -1, "y": 1}, {"x": 1, "y": -1}, {"x": 5, "y": -(10 ** 29)}]:
                with self.assertRaises(WrongCounts):
                    value(function, counts)

    def test_both_at_once(self):
        for function in with_terms(terms(x=1, y=1)):
            for counts, name in [({"x": -1}, "y"), ({"y": -1}, "x"), ({"z": -1}, "x")]:
                with self.assertRaises(UnknownName) as caught:
                    value(function, counts)
                self.assertEqual(caught.exception.name, name)

    def test_counts_of_other_names(self):
        self.assertEqual(value(("sum", X), {"x": 2, "y": -3, "z": 1}), 2)
        self.assertEqual(value(("min", X, Y), {"x": 2, "and": -1, "y": 1, "X": 4}), 1)

    def test_drawn_functions(self):
        draw = random.Random(1)
        for _ in range(300):
            function = drawn_function(draw, ["x", "y", "z"])
            counts = {name: draw.randint(0, 6) for name in ["x", "y", "z"]}
            before = copy.deepcopy(counts)
            self.assertEqual(value(function, counts), naive_value(function, counts), (function, counts))
            self.assertEqual(counts, before)


class CompiledTest(unittest.TestCase):
    def compiled(self, function):
        protocol = compile_function(function)
        self.assertIsInstance(protocol, Rulebook)
        self.assertEqual(protocol.leaders, ())
        return function_marks(function), protocol

    def test_document(self):
        protocol = compile_function(("min", (("x", 1),), (("y", 1),)))
        self.assertEqual(protocol.rules, (("q0", "q1", "q2", "q3"), ("q1", "q0", "q3", "q2")))

    def test_sum(self):
        marks, protocol = self.compiled(("sum", terms(x=3, y=9, z=3)))
        self.assertEqual(marks, [(3,), (9,)])
        self.assertEqual(protocol, Rulebook(["q0", "q1"], [("x", "q0"), ("y", "q1"), ("z", "q0")], [], [], [3, 9]))

    def test_quotient(self):
        marks, protocol = self.compiled(("quotient", terms(x=1, y=5), 3))
        self.assertEqual(marks, [(1, 0), (2, 1), (2, 0), (0, 0), (0, 2), (0, 1), (1, 1)])
        self.assertEqual(protocol.states, tuple([f"q{number}" for number in range(7)]))
        self.assertEqual([protocol.inputs, protocol.outputs], [(("x", "q0"), ("y", "q1")), (0, 1, 0, 0, 2, 1, 1)])
        rules = [rule for rule in protocol.rules if set(rule[:2]) <= {"q0", "q1"}]
        self.assertEqual(rules, [("q0", "q0", "q2", "q3"), ("q0", "q1", "q3", "q4"), ("q1", "q0", "q5", "q5"),
                                 ("q1", "q1", "q6", "q4")])
        self.assertEqual(len(protocol.rules), 16)

    def test_quotient_by_a_divisor_that_divides_the_factor(self):
        marks, protocol = self.compiled(("quotient", terms(x=6), 3))
        self.assertEqual([marks, protocol.rules, protocol.outputs], [[(0, 2)], (), (2,)])

    def test_variables_that_are_in_one_list_only(self):
        marks, protocol = self.compiled(("min", Y, X))
        self.assertEqual(marks, [(0, 1, 0), (1, 0, 0), (0, 0, 0), (0, 0, 1)])
        self.assertEqual(protocol.inputs, (("x", "q0"), ("y", "q1")))
        self.assertEqual(protocol.outputs, (0, 0, 0, 1))
        self.assertEqual(protocol.rules, (("q0", "q1", "q2", "q3"), ("q1", "q0", "q3", "q2")))

    def test_variables_that_are_in_both_lists(self):
        for word, outputs in [("min", (2, 0)), ("max", (5, 1)), ("less", (3, 0))]:
            function = (word, terms(x=5), terms(x=2, y=1))
            marks, protocol = self.compiled(function)
            self.assertEqual(marks[:2], [(3, 0, 2), (0, 1, 0)])
            self.assertIn((2, 0, 3), marks)
            self.assertEqual(protocol.inputs, (("x", "q0"), ("y", "q1")))
            told = [naive_output(function, mark) for mark in marks]
            self.assertEqual(list(protocol.outputs), told)
            self.assertEqual(protocol.outputs[:2], outputs)
            self.assertEqual(marks, naive_protocol(function)[0])
        marks, protocol = self.compiled(("less", X, X))
        self.assertEqual([marks, protocol.rules, protocol.outputs], [[(0, 0, 1)], (), (0,)])

    def test_a_meeting_that_matches_both_ways(self):
        function = ("min", terms(x=2, y=3), terms(x=5, y=1))
        marks, protocol = self.compiled(function)
        self.assertEqual(marks[:4], [(0, 3, 2), (2, 0, 1), (0, 1, 2), (0, 0, 3)])
        self.assertEqual(protocol.meet(0, 1), (marks.index((0, 1, 2)), marks.index((0, 0, 3))))
        self.assertEqual(protocol.meet(1, 0), (marks.index((0, 0, 3)), marks.index((0, 1, 2))))

    def test_by_the_words_of_the_points(self):
        draw = random.Random(2)
        for _ in range(60):
            function = drawn_function(draw, ["x", "y", "z"], 4)
            marks, expected = naive_protocol(function)
            self.assertEqual(function_marks(function), marks, function)
            self.assertEqual(compile_function(function), expected, function)

    def test_outputs_are_small(self):
        draw = random.Random(3)
        for _ in range(100):
            protocol = compile_function(drawn_function(draw, ["x", "y", "z"]))
            self.assertLessEqual(max(protocol.outputs), 9)
        for word in PAIRS:
            protocol = compile_function((word, terms(x=9, y=8), terms(y=7, z=9)))
            self.assertEqual(max(protocol.outputs), 9)

    def test_the_list_is_new(self):
        function_marks(("sum", X)).append(1)
        self.assertEqual(function_marks(("sum", X)), [(1,)])


class RefusedTest(unittest.TestCase):
    def refused(self, *functions):
        for function in functions:
            for compiling in [compile_function, function_marks]:
                with self.assertRaises(InvalidFunction):
                    compiling(function)

    def test_wrong_functions(self):
        for told in [(), (("x", 0),), (("x", 10),), (("y", 1), ("x", 1)), (("x", 1), ("x", 2)), (("mod", 1),),
                     (("X", 1),)]:
            self.refused(*with_terms(told))
        self.refused(("quotient", X, 1), ("quotient", X, 21), ("sum", wholes(9)))
        self.refused(*[(word, wholes(4), wholes(5, 4)) for word in PAIRS])

    def test_the_greatest_protocols_have_fewer_than_400_states(self):
        """A mark has units on the left or on the right alone, and with the matched ones never more than 9."""
        left, right = terms(a=9, b=8, c=7, d=6, e=5, f=4, g=9), terms(a=1, b=2, c=3, d=6, e=9, f=8, h=9)
        for word in PAIRS:
            marks = function_marks((word, left, right))
            self.assertEqual(len(marks), len(compile_function((word, left, right))))
            self.assertEqual(max([min(mark[:2]) for mark in marks]), 0)
            self.assertEqual(max([sum(mark) for mark in marks]), 9)
            self.assertLess(len(marks), 110)
        for divisor in range(2, 21):
            marks = function_marks(("quotient", left, divisor))
            self.assertLessEqual(max([whole for _, whole in marks]), 5)
            self.assertLess(len(marks), 110)

    def test_too_many_states(self):
        """No function has more than 400 states; so the limit is lowered."""
        function = ("quotient", terms(x=1, y=5), 3)
        with mock.patch("mingle.marks.MOST_STATES", 7):
            self.assertEqual([len(function_marks(function)), len(compile_function(function))], [7, 7])
        with mock.patch("mingle.marks.MOST_STATES", 6):
            for compiling in [compile_function, function_marks]:
                with self.assertRaises(TooManyStates) as caught:
                    compiling(function)
                self.assertEqual(caught.exception.limit, 6)
            self.refused(("quotient", terms(x=1, y=5), 21))


class ComputingTest(unittest.TestCase):
    """Points 27 and 30, by all places that can be reached."""

    def check(self, function, greatest):
        protocol = compile_function(function)
        names = function_variables(function)
        self.assertEqual([name for name, _ in protocol.inputs], names)
        for counts in counts_up_to(len(names), greatest):
            expected = value(function, dict(zip(names, counts)))
            self.assertEqual(expected, naive_value(function, dict(zip(names, counts))))
            graph = explore(protocol, protocol.first_place(counts), limit=20000)
            for region in bottoms(graph):
                for number in region:
                    self.assertEqual(total_output(protocol, graph.place(number)), expected, (function, counts))
            self.assertEqual(check(protocol, graph.place(0), ("total", expected))[0], "yes")

    def test_several(self):
        for function in [
            ("sum", terms(x=2, y=9)), ("quotient", X, 2), ("quotient", terms(x=2, y=3), 4), ("quotient", terms(x=9), 5),
            ("quotient", terms(x=7, y=8), 20), ("min", X, Y), ("max", X, Y), ("less", X, Y), ("less", Y, X),
            ("min", X, X), ("max", terms(x=1, y=2), terms(x=2, y=1)), ("less", terms(x=3), terms(x=1, y=2)),
            ("min", terms(x=2, y=3), terms(x=5, y=1)), ("max", terms(x=9), terms(y=9)),
            ("less", terms(x=2, z=1), terms(y=3)),
        ]:
            self.check(function, 4)

    def test_more_agents(self):
        self.check(("quotient", X, 3), 8)
        self.check(("min", X, Y), 7)
        self.check(("max", terms(x=1, y=2), Y), 6)

    def test_drawn_functions(self):
        draw = random.Random(4)
        for _ in range(30):
            self.check(drawn_function(draw, ["x", "y"], 4), 3)

    def test_a_great_population(self):
        draw = random.Random(5)
        for function, counts in [(("quotient", terms(x=2, y=3), 7), [40, 31]), (("less", terms(x=3), terms(y=2)), [30, 33]),
                                 (("max", terms(x=1, y=2), terms(x=2)), [35, 30])]:
            protocol = compile_function(function)
            crowd = [protocol.number(state) for (_, state), count in zip(protocol.inputs, counts) for _ in range(count)]
            for _ in range(60000):
                first, second = draw.sample(range(len(crowd)), 2)
                crowd[first], crowd[second] = protocol.meet(crowd[first], crowd[second])
            told = sum([protocol.outputs[state] for state in crowd])
            self.assertEqual(told, value(function, dict(zip(["x", "y"], counts))))


if __name__ == "__main__":
    unittest.main()

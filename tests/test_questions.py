"""Points 66 and 67: questions about the values of functions."""

import random
import unittest

from mingle.checking import first_failure
from mingle.compiling import compile_formula
from mingle.errors import InvalidFormula, InvalidFunction
from mingle.formulas import answer, is_formula
from mingle.functions import function_variables, value
from mingle.questions import at_least, exactly
from samples import FALSE, TRUE, counts_up_to, least

X, Y = (("x", 1),), (("y", 1),)
GREAT = 10 ** 29
NO_FUNCTIONS = [("sum", ()), ("sum", (("x", 0),)), ("sum", (("x", 10),)), ("sum", (("x", -1),)), ("sum", (("X", 1),)),
                ("sum", (("and", 1),)), ("sum", (("y", 1), ("x", 1))), ("sum", (("x", 1), ("x", 1))), ("quotient", X, 1),
                ("quotient", X, 21), ("quotient", (), 2), ("min", X, ()), ("min", (), X), ("max", X, (("x", 10),)),
                ("less", X, (("Y", 1),)), ("sum", tuple([(f"v{number}", 1) for number in range(9)]))]


def drawn_function(draw):
    def terms():
        return tuple([(name, draw.randint(1, 4)) for name in sorted(draw.sample("xyz", draw.randint(1, 3)))])

    word = draw.choice(["sum", "quotient", "min", "max", "less"])
    last = {"sum": (), "quotient": (draw.randint(2, 5),)}.get(word, (terms(),))
    return (word, terms(), *last)


def told(formula, function, greatest=4):
    """The pairs of the answer of the formula and the value of the function for all small counts."""
    names = function_variables(function)
    for numbers in counts_up_to(len(names), greatest):
        counts = dict(zip(names, numbers))
        yield answer(formula, counts), value(function, counts)


class AtLeastTest(unittest.TestCase):
    def asks(self, function, bound, expected):
        self.assertEqual(at_least(function, bound), expected)
        self.assertTrue(all(holds == (reached >= bound) for holds, reached in told(expected, function)))

    def refused(self, function, *bounds):
        for bound in bounds:
            with self.assertRaises(InvalidFormula):
                at_least(function, bound)

    def test_document(self):
        self.asks(("less", (("x", 2), ("y", 1)), Y), 3, least(3, x=2))

    def test_sum(self):
        function = ("sum", (("x", 2), ("y", 9)))
        for bound in [-20, -1, 0, 1, 7, 20]:
            self.asks(function, bound, least(bound, x=2, y=9))
        self.refused(function, -21, 21, GREAT, -GREAT)

    def test_quotient(self):
        function = ("quotient", (("x", 1), ("y", 3)), 4)
        for bound in [-5, -1, 0, 1, 2, 5]:
            self.asks(function, bound, least(4 * bound, x=1, y=3))
        self.refused(function, -6, 6, GREAT, -GREAT)
        self.asks(("quotient", X, 20), 1, least(20, x=1))
        self.asks(("quotient", X, 20), -1, least(-20, x=1))
        self.refused(("quotient", X, 20), 2, -2)
        self.asks(("quotient", X, 3), 6, least(18, x=1))
        self.refused(("quotient", X, 3), 7, -7)

    def test_min_and_max(self):
        left, right = (("x", 1), ("y", 2)), (("x", 3), ("z", 1))
        for bound in [-20, 0, 1, 4, 20]:
            parts = (least(bound, x=1, y=2), least(bound, x=3, z=1))
            self.asks(("min", left, right), bound, ("and", *parts))
            self.asks(("max", left, right), bound, ("or", *parts))
        for word in ["min", "max"]:
            self.refused((word, left, right), -21, 21, GREAT, -GREAT)
        self.asks(("min", X, X), 2, ("and", least(2, x=1), least(2, x=1)))

    def test_less(self):
        function = ("less", (("x", 2), ("y", 1)), (("x", 1), ("z", 4)))
        for bound in [1, 2, 5, 20]:
            self.asks(function, bound, least(bound, x=1, y=1, z=-4))
        for bound in [0, -1, -20, -21, -GREAT]:
            self.asks(function, bound, TRUE)
        self.refused(function, 21, 22, GREAT)

    def test_less_with_negative_factors(self):
        self.asks(("less", X, (("x", 9),)), 1, least(1, x=-8))
        self.asks(("less", X, Y), 1, least(1, x=1, y=-1))
        self.asks(("less", Y, X), 1, least(1, x=-1, y=1))

    def test_less_with_terms_that_cancel(self):
        self.asks(("less", (("x", 3), ("y", 2)), (("x", 3),)), 2, least(2, y=2))
        self.asks(("less", (("x", 3), ("y", 2)), (("x", 3), ("y", 1))), 2, least(2, y=1))

    def test_less_with_equal_lists(self):
        for terms in [X, (("x", 9), ("y", 2))]:
            for bound in [1, 2, 20, 21, GREAT]:
                self.asks(("less", terms, terms), bound, FALSE)
            for bound in [0, -1, -20, -GREAT]:
                self.asks(("less", terms, terms), bound, TRUE)

    def test_no_functions(self):
        for function in NO_FUNCTIONS:
            for bound in [0, 1, 21, -21, GREAT]:
                with self.assertRaises(InvalidFunction):
                    at_least(function, bound)

    def test_eight_variables(self):
        terms = tuple([(f"v{number}", 1) for number in range(8)])
        self.assertEqual(at_least(("sum", terms), 3), ("least", terms, 3))
        self.assertEqual(at_least(("less", terms[:4], terms[4:]), 3)[1], terms[:4] + tuple([(name, -1) for name, _ in terms[4:]]))

    def test_drawn_functions(self):
        draw = random.Random(1)
        for _ in range(200):
            function = drawn_function(draw)
            for bound in range(-2, 8):
                try:
                    formula = at_least(function, bound)
                except InvalidFormula:
                    self.assertEqual(function[0], "quotient")
                    self.assertGreater(abs(bound * function[2]), 20)
                    continue
                self.assertTrue(is_formula(formula))
                self.asks(function, bound, formula)


class ExactlyTest(unittest.TestCase):
    def asks(self, function, number, expected):
        self.assertEqual(exactly(function, number), expected)
        self.assertTrue(all(holds == (reached == number) for holds, reached in told(expected, function)))

    def refused(self, function, *numbers):
        for number in numbers:
            with self.assertRaises(InvalidFormula):
                exactly(function, number)

    def test_sum(self):
        function = ("sum", (("x", 2), ("y", 1)))
        for number in [-20, -1, 0, 1, 5, 19]:
            self.asks(function, number, ("and", least(number, x=2, y=1), ("not", least(number + 1, x=2, y=1))))
        self.refused(function, 20, 21, -21, GREAT, -GREAT)

    def test_quotient(self):
        function = ("quotient", X, 4)
        for number in [-5, 0, 1, 4]:
            self.asks(function, number, ("and", least(4 * number, x=1), ("not", least(4 * number + 4, x=1))))
        self.refused(function, 5, 6, -6)

    def test_min_and_max(self):
        for word, joint in [("min", "and"), ("max", "or")]:
            for number in [-1, 0, 2, 19]:
                first = (joint, least(number, x=1), least(number, y=3))
                second = (joint, least(number + 1, x=1), least(number + 1, y=3))
                self.asks((word, X, (("y", 3),)), number, ("and", first, ("not", second)))
            self.refused((word, X, Y), 20, -21)

    def test_less(self):
        function = ("less", X, Y)
        self.asks(function, 2, ("and", least(2, x=1, y=-1), ("not", least(3, x=1, y=-1))))
        self.asks(function, 0, ("and", TRUE, ("not", least(1, x=1, y=-1))))
        for number in [-1, -2, -20, -21, -GREAT]:
            self.asks(function, number, ("and", TRUE, ("not", TRUE)))
        self.asks(function, 19, ("and", least(19, x=1, y=-1), ("not", least(20, x=1, y=-1))))
        self.refused(function, 20, 21, GREAT)
        self.asks(("less", X, X), 0, ("and", TRUE, ("not", FALSE)))
        self.asks(("less", X, X), 20, ("and", FALSE, ("not", FALSE)))

    def test_no_functions(self):
        for function in NO_FUNCTIONS:
            for number in [0, 1, 20, -21, GREAT]:
                with self.assertRaises(InvalidFunction):
                    exactly(function, number)

    def test_drawn_functions(self):
        draw = random.Random(2)
        for _ in range(100):
            function = drawn_function(draw)
            for number in range(-1, 4):
                self.asks(function, number, ("and", at_least(function, number), ("not", at_least(function, number + 1))))

    def test_questions_are_decided(self):
        for function in [("min", X, Y), ("less", (("x", 2),), Y), ("quotient", (("x", 1), ("y", 1)), 2)]:
            formula = exactly(function, 1)
            self.assertIsNone(first_failure(compile_formula(formula), formula, 3))


if __name__ == "__main__":
    unittest.main()

"""Points 12 and 13: formulas, their depth, their variables and their answers."""

import random
import unittest

from mingle.errors import UnknownName, WrongCounts
from mingle.formulas import answer, depth, is_formula, variables
from samples import FALSE, TRUE, counts_up_to, drawn_formula, least, many_variables, nested, rest

X = (("x", 1),)
WORDS = ["and", "or", "not", "true", "false", "mod"]
NO_NAMES = ["", "X", "1x", "_x", "x_y", "x y", "x-", " x", "x ", "aB", "a" * 13]


def wrapped(formula):
    """The formula in each place where a part may stand."""
    x = least(1, x=1)
    yield formula
    yield ("not", formula)
    for word in ["and", "or"]:
        yield (word, formula, x)
        yield (word, x, formula)
    yield ("or", ("and", x, ("not", ("or", x, ("and", ("not", formula), x)))), x)


class IsFormulaTest(unittest.TestCase):
    def check(self, formula, expected):
        for whole in wrapped(formula):
            self.assertIs(is_formula(whole), expected, whole)

    def test_each_kind(self):
        for formula in [TRUE, FALSE, least(3, x=2, y=-1), rest(1, 3, x=2, y=-1), ("not", TRUE), ("and", TRUE, FALSE),
                        ("or", FALSE, TRUE)]:
            self.check(formula, True)

    def test_factors(self):
        for factor, expected in [(-21, False), (-20, True), (-1, True), (0, False), (1, True), (20, True), (21, False),
                                 (10 ** 29, False), (-10 ** 29, False)]:
            self.check(("least", (("x", factor),), 1), expected)
            self.check(("rest", (("x", factor),), 1, 3), expected)
            self.check(("least", (("w", 2), ("x", factor)), 1), expected)
            self.check(("rest", (("x", factor), ("y", 5)), 1, 3), expected)

    def test_bounds(self):
        for bound, expected in [(-21, False), (-20, True), (0, True), (20, True), (21, False), (10 ** 29, False),
                                (-10 ** 29, False)]:
            self.check(("least", X, bound), expected)

    def test_no_terms(self):
        self.check(("least", (), 1), False)
        self.check(("rest", (), 1, 2), False)

    def test_order_of_terms(self):
        for terms, expected in [
            ((("x", 1), ("y", 1)), True),
            ((("y", 1), ("x", 1)), False),
            ((("y", 1), ("x", 2)), False),
            ((("x", 5), ("y", -5)), True),
            ((("x", 1), ("x", 1)), False),
            ((("x", 1), ("x", 2)), False),
            ((("x", 2), ("x", 1)), False),
            ((("x", 1), ("y", 1), ("y", 2)), False),
            ((("x", 1), ("y", 1), ("x", 1)), False),
            ((("a", 1), ("a1", 1), ("aa", 1), ("b", 1)), True),
            ((("a", 1), ("aa", 1), ("a1", 1), ("b", 1)), False),
        ]:
            self.check(("least", terms, 1), expected)
            self.check(("rest", terms, 1, 2), expected)

    def test_names(self):
        for name in ["a", "z", "x1", "a" * 12, "notx", "ands", "mod2", "tru", "least", "rest"]:
            self.check(least(1, **{name: 1}), True)
            self.check(rest(1, 2, **{name: 1}), True)
        for name in WORDS + NO_NAMES:
            self.check(least(1, **{name: 1}), False)
            self.check(rest(1, 2, **{name: 1}), False)
            self.check(("least", tuple(sorted([("w", 1), (name, 1), ("x", 1)])), 1), False)

    def test_modulus(self):
        for modulus, expected in [(-2, False), (0, False), (1, False), (2, True), (3, True), (19, True), (20, True),
                                  (21, False), (10 ** 29, False)]:
            self.check(("rest", X, 0, modulus), expected)

    def test_rest(self):
        for modulus in [2, 3, 20]:
            for number, expected in [(-1, False), (0, True), (modulus - 1, True), (modulus, False), (50, False)]:
                self.check(("rest", X, number, modulus), expected)

    def test_depth(self):
        for inner in [TRUE, least(1, x=1), rest(0, 2, x=1)]:
            for many in range(1, 9):
                self.assertIs(is_formula(nested(many, inner)), True)
            for many in [9, 10, 30, 60]:
                self.assertIs(is_formula(nested(many, inner)), False)
        for word in ["and", "or"]:
            self.assertIs(is_formula((word, TRUE, nested(7))), True)
            self.assertIs(is_formula((word, nested(7), TRUE)), True)
            self.assertIs(is_formula((word, TRUE, nested(8))), False)
            self.assertIs(is_formula((word, nested(8), TRUE)), False)

    def test_a_wide_formula_that_is_too_deep(self):
        formula = TRUE
        for _ in range(59):
            formula = ("and", formula, formula)
        self.assertIs(is_formula(formula), False)

    def test_variables(self):
        for many in range(1, 9):
            self.assertIs(is_formula(many_variables(many)), True)
            self.assertIs(is_formula(("not", ("and", many_variables(many), many_variables(many)))), True)
        for many in [9, 10, 20]:
            self.assertIs(is_formula(many_variables(many)), False)
            self.assertIs(is_formula(("not", ("or", TRUE, many_variables(many)))), False)
        self.assertIs(is_formula(least(1, **{f"v{number}": 1 for number in range(8)})), True)
        self.assertIs(is_formula(least(1, **{f"v{number}": 1 for number in range(9)})), False)

    def test_drawn_formulas(self):
        draw = random.Random(1)
        for _ in range(300):
            self.assertIs(is_formula(drawn_formula(draw, 8, ["x", "y", "z"])), True)


class DepthTest(unittest.TestCase):
    def test_without_parts(self):
        for formula in [TRUE, FALSE, least(1, x=1, y=1), rest(1, 2, x=1)]:
            self.assertEqual(depth(formula), 1)

    def test_with_parts(self):
        self.assertEqual(depth(("not", TRUE)), 2)
        for word in ["and", "or"]:
            self.assertEqual(depth((word, TRUE, FALSE)), 2)
            self.assertEqual(depth((word, nested(5), nested(3))), 6)
            self.assertEqual(depth((word, nested(3), nested(7))), 8)

    def test_deep_ones(self):
        for many in [8, 9, 60]:
            self.assertEqual(depth(nested(many)), many)


class VariablesTest(unittest.TestCase):
    def test_without_terms(self):
        for formula in [TRUE, FALSE, ("not", ("and", TRUE, FALSE))]:
            self.assertEqual(variables(formula), [])

    def test_ascending_and_once(self):
        formula = ("and", least(1, z=1, b=1), ("not", ("or", rest(1, 2, b=3, a9=1), least(2, a=1, z=4))))
        self.assertEqual(variables(formula), ["a", "a9", "b", "z"])

    def test_the_list_is_new(self):
        formula = least(1, x=1)
        variables(formula).append("y")
        self.assertEqual(variables(formula), ["x"])


class AnswerTest(unittest.TestCase):
    def test_true_and_false(self):
        self.assertIs(answer(TRUE, {}), True)
        self.assertIs(answer(FALSE, {"x": 1}), False)

    def test_least(self):
        formula = least(2, x=3, y=-2)
        for x, y, expected in [(0, 0, False), (1, 0, True), (1, 1, False), (2, 2, True), (2, 3, False), (0, 9, False),
                               (4, 5, True)]:
            self.assertIs(answer(formula, {"x": x, "y": y}), expected)
        self.assertIs(answer(least(0, x=-1), {"x": 0}), True)
        self.assertIs(answer(least(-3, x=-1), {"x": 3}), True)
        self.assertIs(answer(least(-3, x=-1), {"x": 4}), False)

    def test_rest(self):
        for count in range(12):
            self.assertIs(answer(rest(2, 5, x=3), {"x": count}), count in (4, 9))

    def test_rest_of_a_sum_below_0(self):
        for count in range(12):
            self.assertIs(answer(rest(2, 5, x=-1), {"x": count}), count in (3, 8))
            self.assertIs(answer(rest(0, 5, x=-2), {"x": count}), count in (0, 5, 10))
        self.assertIs(answer(rest(19, 20, x=1, y=-20, z=-1), {"x": 0, "y": 7, "z": 1}), True)

    def test_words(self):
        for left in [TRUE, FALSE]:
            self.assertIs(answer(("not", left), {}), left == FALSE)
            for right in [TRUE, FALSE]:
                self.assertIs(answer(("and", left, right), {}), left == right == TRUE)
                self.assertIs(answer(("or", left, right), {}), not left == right == FALSE)

    def test_very_great_counts(self):
        great = 10 ** 30 - 1
        self.assertIs(answer(least(1, x=1, y=-1), {"x": great, "y": great - 1}), True)
        self.assertIs(answer(least(1, x=1, y=-1), {"x": great, "y": great}), False)
        self.assertIs(answer(rest(19, 20, x=1), {"x": great}), True)
        self.assertIs(answer(rest(1, 20, x=-1), {"x": great}), True)

    def test_more_counts_than_variables(self):
        counts = {"w": -1, "x": 1, "mod": -7, "X": -3}
        self.assertIs(answer(least(1, x=1), counts), True)
        self.assertEqual(counts, {"w": -1, "x": 1, "mod": -7, "X": -3})

    def test_a_variable_without_a_count(self):
        formula = ("or", TRUE, ("and", least(1, z=1, c=1), rest(0, 2, d=1, b=1)))
        for known, first in [("", "b"), ("b", "c"), ("bc", "d"), ("bcd", "z"), ("cdz", "b"), ("bcz", "d")]:
            with self.assertRaises(UnknownName) as caught:
                answer(formula, {name: 1 for name in known})
            self.assertEqual(caught.exception.name, first)

    def test_a_negative_count(self):
        for formula in [least(1, x=1, y=1), ("or", TRUE, rest(1, 2, x=1, y=2)), ("and", FALSE, least(-1, y=1, x=2))]:
            for counts in [{"x": -1, "y": 1}, {"x": 1, "y": -1}, {"x": -10 ** 29, "y": 0}]:
                with self.assertRaises(WrongCounts):
                    answer(formula, counts)

    def test_both_at_once(self):
        for counts, first in [({"x": -1}, "y"), ({"y": -1}, "x"), ({"z": -1}, "x")]:
            with self.assertRaises(UnknownName) as caught:
                answer(least(1, x=1, y=1), counts)
            self.assertEqual(caught.exception.name, first)

    def test_drawn_formulas(self):
        draw = random.Random(2)
        for _ in range(60):
            formula = drawn_formula(draw, 4, ["x", "y", "z"])
            for x, y, z in counts_up_to(3, 3):
                counts = {"x": x, "y": y, "z": z}
                self.assertIs(answer(formula, counts), bool(plain_answer(formula, counts)))


def plain_answer(formula, counts):
    """The answer as Python's own words give it."""
    word, *told = formula
    if word in ("least", "rest"):
        value = sum(factor * counts[name] for name, factor in told[0])
        return value >= told[1] if word == "least" else (value - told[1]) % told[2] == 0
    parts = [plain_answer(part, counts) for part in told]
    return {"true": True, "false": False, "not": parts == [False], "and": all(parts), "or": any(parts)}[word]


if __name__ == "__main__":
    unittest.main()

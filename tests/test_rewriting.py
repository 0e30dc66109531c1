"""Points 56, 57 and 58: formulas that are negated, simplified or named anew, and where two formulas differ."""

import copy
import random
import unittest

from mingle.errors import InvalidFormula
from mingle.formulas import answer, depth, is_formula, variables
from mingle.formulatext import parse_formula
from mingle.rewriting import first_difference, negated, replaced, simplified
from samples import FALSE, TRUE, counts_up_to, drawn_formula, least, many_variables, nested, rest


def both_answers(first, second, greatest=3):
    """For all small counts of the variables of both the two answers."""
    names = sorted(set(variables(first)) | set(variables(second)))
    for numbers in counts_up_to(len(names), greatest):
        counts = dict(zip(names, numbers))
        yield answer(first, counts), answer(second, counts)


def naive_difference(first, second, size):
    names = sorted(set(variables(first)) | set(variables(second)))
    for numbers in sorted(counts_up_to(len(names), size), key=lambda row: (sum(row), row)):
        counts = dict(zip(names, numbers))
        if answer(first, counts) != answer(second, counts):
            return counts
    return None


class NegatedTest(unittest.TestCase):
    def negation(self, formula, expected):
        self.assertEqual(negated(formula), expected)
        self.assertTrue(all(here != there for here, there in both_answers(formula, expected)))

    def test_truth(self):
        self.negation(TRUE, FALSE)
        self.negation(FALSE, TRUE)

    def test_least(self):
        self.negation(least(1, x=1), least(0, x=-1))
        self.negation(least(0, x=1), least(1, x=-1))
        self.negation(least(3, x=2, y=-4), least(-2, x=-2, y=4))
        self.negation(least(-5, x=-20, y=20), least(6, x=20, y=-20))

    def test_bounds_at_the_ends(self):
        self.negation(least(20, x=1), least(-19, x=-1))
        self.negation(least(-19, x=1), least(20, x=-1))
        for formula in [least(-20, x=1), least(-20, x=-3, y=4)]:
            for whole in [formula, ("and", TRUE, formula), ("or", ("not", TRUE), ("and", formula, TRUE))]:
                with self.assertRaises(InvalidFormula):
                    negated(whole)
        self.negation(("not", least(-20, x=1)), least(-20, x=1))

    def test_rest(self):
        self.negation(rest(1, 3, x=1, y=-2), ("not", rest(1, 3, x=1, y=-2)))
        self.negation(rest(0, 20, x=20), ("not", rest(0, 20, x=20)))

    def test_not(self):
        self.negation(("not", least(1, x=1)), least(1, x=1))
        self.negation(("not", rest(1, 2, x=1)), rest(1, 2, x=1))
        self.negation(("not", ("not", least(1, x=1))), ("not", least(1, x=1)))
        self.negation(("not", ("and", TRUE, least(1, x=1))), ("and", TRUE, least(1, x=1)))
        self.negation(("not", TRUE), TRUE)

    def test_and_and_or(self):
        self.negation(("and", least(1, x=1), TRUE), ("or", least(0, x=-1), FALSE))
        self.negation(("or", FALSE, least(1, x=1)), ("and", TRUE, least(0, x=-1)))
        self.negation(("and", rest(0, 2, x=1), rest(1, 2, y=1)), ("or", ("not", rest(0, 2, x=1)), ("not", rest(1, 2, y=1))))

    def test_nested(self):
        formula = ("and", ("or", least(2, x=1), ("not", rest(0, 2, y=1))), ("not", ("and", TRUE, least(2, y=3))))
        expected = ("or", ("and", least(-1, x=-1), rest(0, 2, y=1)), ("and", TRUE, least(2, y=3)))
        self.negation(formula, expected)
        formula = ("or", formula, ("and", least(0, z=1), FALSE))
        self.negation(formula, ("and", expected, ("or", least(1, z=-1), TRUE)))

    def test_depths(self):
        self.negation(nested(8), nested(7))
        inner = rest(0, 2, x=1)
        self.negation(nested(8, inner), nested(7, inner))
        formula = inner
        for _ in range(7):
            formula = ("and", formula, TRUE)
        self.assertEqual(depth(formula), 8)
        with self.assertRaises(InvalidFormula):
            negated(formula)
        self.assertEqual(depth(negated(formula[1])), 8)

    def test_drawn_formulas(self):
        draw = random.Random(1)
        refused = 0
        for _ in range(300):
            formula = drawn_formula(draw, 4, ["x", "y"])
            before = copy.deepcopy(formula)
            try:
                found = negated(formula)
            except InvalidFormula:
                refused += 1
                continue
            self.assertTrue(is_formula(found))
            self.assertTrue(all(here != there for here, there in both_answers(formula, found, 4)))
            self.assertEqual(formula, before)
        self.assertLess(refused, 40)


class SimplifiedTest(unittest.TestCase):
    def simple(self, formula, expected):
        self.assertEqual(simplified(formula), expected, formula)
        self.assertEqual(simplified(expected), expected)
        self.assertTrue(all(here == there for here, there in both_answers(formula, expected)))

    def unchanged(self, *formulas):
        for formula in formulas:
            self.simple(formula, formula)

    def test_document(self):
        self.simple(("not", least(3, x=2, y=4)), least(-1, x=-1, y=-2))

    def test_what_is_simple(self):
        x, y = least(1, x=1), rest(1, 3, y=1)
        self.unchanged(TRUE, FALSE, x, y, ("not", y), ("and", x, y), ("or", y, x), ("and", ("not", y), x),
                       ("or", ("and", x, y), ("and", y, x)), least(-3, x=2, y=-3), least(0, x=-1), least(20, x=1))

    def test_divisors_of_the_factors(self):
        self.simple(least(4, x=2), least(2, x=1))
        self.simple(least(3, x=2), least(2, x=1))
        self.simple(least(1, x=20), least(1, x=1))
        self.simple(least(6, x=6, y=9), least(2, x=2, y=3))
        self.simple(least(7, x=6, y=9), least(3, x=2, y=3))
        self.simple(least(20, x=3, y=6, z=9), least(7, x=1, y=2, z=3))
        self.simple(least(9, x=4, y=-6), least(5, x=2, y=-3))
        self.simple(least(1, x=4, y=-8), least(1, x=1, y=-2))

    def test_negative_bounds_are_rounded_up(self):
        self.simple(least(-3, x=2, y=-2), least(-1, x=1, y=-1))
        self.simple(least(-4, x=2, y=-2), least(-2, x=1, y=-1))
        self.simple(least(-1, x=2, y=-2), least(0, x=1, y=-1))
        self.simple(least(-20, x=-3), least(-6, x=-1))
        self.simple(least(-7, x=-4, y=-8), least(-1, x=-1, y=-2))
        self.simple(least(-3, x=-4), least(0, x=-1))

    def test_factors_without_a_divisor(self):
        self.unchanged(least(3, x=2, y=3), least(-3, x=-2, y=3), least(7, x=6, y=10, z=15), least(5, x=1, y=20))

    def test_positive_factors(self):
        self.simple(least(0, x=1), TRUE)
        self.simple(least(-1, x=1, y=5), TRUE)
        self.simple(least(-20, x=4, y=2), TRUE)
        self.simple(least(0, x=3, y=6), TRUE)
        self.simple(least(1, x=3, y=6), least(1, x=1, y=2))
        self.unchanged(least(1, x=1), least(1, x=1, y=5), least(0, x=1, y=-5), least(-1, x=-1, y=5))

    def test_negative_factors(self):
        self.simple(least(1, x=-1), FALSE)
        self.simple(least(20, x=-1, y=-5), FALSE)
        self.simple(least(1, x=-20), FALSE)
        self.unchanged(least(0, x=-1), least(0, x=-1, y=-5), least(1, x=1, y=-5), least(1, x=-1, y=5), least(-1, x=-2, y=-3))

    def test_rests(self):
        self.simple(rest(1, 3, x=4), rest(1, 3, x=1))
        self.simple(rest(1, 3, x=-1, y=2), rest(1, 3, x=2, y=2))
        self.simple(rest(1, 3, x=-20, y=20), rest(1, 3, x=1, y=2))
        self.simple(rest(1, 3, x=3, y=2), rest(1, 3, y=2))
        self.simple(rest(2, 3, x=5, y=-6, z=9), rest(2, 3, x=2))
        self.unchanged(rest(0, 4, x=2, y=2), rest(19, 20, x=19))

    def test_rests_without_a_term_that_is_left(self):
        self.simple(rest(0, 3, x=3), TRUE)
        self.simple(rest(0, 5, x=-20, y=10), TRUE)
        self.simple(rest(1, 3, x=3), FALSE)
        self.simple(rest(19, 20, x=20, y=-20), FALSE)

    def test_and(self):
        x, y = least(1, x=1), rest(1, 3, y=1)
        self.simple(("and", TRUE, x), x)
        self.simple(("and", x, TRUE), x)
        self.simple(("and", FALSE, x), FALSE)
        self.simple(("and", x, FALSE), FALSE)
        self.simple(("and", x, x), x)
        self.simple(("and", y, y), y)
        self.unchanged(("and", x, y), ("and", y, x))
        for left, right, expected in [(TRUE, TRUE, TRUE), (TRUE, FALSE, FALSE), (FALSE, TRUE, FALSE), (FALSE, FALSE, FALSE)]:
            self.simple(("and", left, right), expected)

    def test_or(self):
        x, y = least(1, x=1), rest(1, 3, y=1)
        self.simple(("or", FALSE, x), x)
        self.simple(("or", x, FALSE), x)
        self.simple(("or", TRUE, x), TRUE)
        self.simple(("or", x, TRUE), TRUE)
        self.simple(("or", x, x), x)
        self.unchanged(("or", x, y), ("or", y, x))
        for left, right, expected in [(TRUE, TRUE, TRUE), (TRUE, FALSE, TRUE), (FALSE, TRUE, TRUE), (FALSE, FALSE, FALSE)]:
            self.simple(("or", left, right), expected)

    def test_parts_that_become_equal(self):
        self.simple(("and", least(3, x=2), least(4, x=2)), least(2, x=1))
        self.simple(("or", rest(1, 3, x=1), rest(1, 3, x=4)), rest(1, 3, x=1))
        self.simple(("or", ("not", least(1, x=1)), least(0, x=-1)), least(0, x=-1))
        self.simple(("and", ("not", rest(0, 2, x=3)), ("not", rest(0, 2, x=1))), ("not", rest(0, 2, x=1)))
        x, y = least(1, x=1), rest(1, 3, y=1)
        self.simple(("and", ("or", x, y), ("or", x, ("and", y, y))), ("or", x, y))
        # They have the same answers, but are not equal.
        self.unchanged(("or", ("or", x, y), ("or", y, x)))

    def test_parts_that_become_true_or_false(self):
        x = least(1, x=1)
        self.simple(("and", x, least(0, y=1)), x)
        self.simple(("and", least(1, y=-1), x), FALSE)
        self.simple(("or", rest(0, 3, y=3), x), TRUE)
        self.simple(("or", x, rest(1, 3, y=3)), x)
        self.simple(("and", ("or", least(1, y=-2), FALSE), x), FALSE)
        self.simple(("and", ("or", least(0, y=2), x), ("and", x, TRUE)), x)

    def test_not(self):
        x, y = least(1, x=1), rest(1, 3, y=1)
        self.simple(("not", TRUE), FALSE)
        self.simple(("not", FALSE), TRUE)
        self.simple(("not", x), least(0, x=-1))
        self.simple(("not", y), ("not", y))
        self.simple(("not", rest(1, 3, y=4)), ("not", y))
        self.simple(("not", rest(0, 3, y=3)), FALSE)
        self.simple(("not", rest(1, 3, y=3)), TRUE)
        self.simple(("not", ("not", x)), x)
        self.simple(("not", ("not", y)), y)
        self.simple(("not", ("not", ("not", y))), ("not", y))
        self.simple(("not", ("and", x, y)), ("or", least(0, x=-1), ("not", y)))
        self.simple(("not", ("or", ("not", y), x)), ("and", y, least(0, x=-1)))
        self.simple(("not", ("or", ("not", x), ("and", y, ("not", y)))), ("and", x, ("or", ("not", y), y)))

    def test_negations_are_simplified_again(self):
        # The negation of a relation that is neither true nor false may be one.
        self.simple(("not", least(1, x=1, y=1)), least(0, x=-1, y=-1))
        self.simple(("not", ("and", least(3, x=2), TRUE)), least(-1, x=-1))
        self.simple(("not", least(-3, x=2, y=-2)), least(2, x=-1, y=1))
        x = least(1, x=1)
        self.simple(("not", ("and", x, ("not", rest(1, 3, x=3)))), least(0, x=-1))

    def test_bounds_that_are_out_of_range_in_between(self):
        self.simple(("not", ("not", least(-20, x=1, y=-1))), least(-20, x=1, y=-1))
        self.simple(("not", least(-20, x=2, y=-4)), least(11, x=-1, y=2))
        self.simple(("not", ("and", TRUE, ("not", least(-20, x=-1)))), least(-20, x=-1))
        self.simple(("and", ("not", least(-20, x=1, y=-1)), FALSE), FALSE)
        self.simple(("or", least(0, x=1), ("not", least(-20, x=1, y=-1))), TRUE)
        self.simple(("not", least(-20, x=1)), FALSE)

    def test_bounds_that_are_out_of_range_in_the_result(self):
        for formula in [("not", least(-20, x=1, y=-1)), ("not", least(-20, x=-1)), ("not", least(-20, x=-2, y=3)),
                        ("and", least(1, z=1), ("not", least(-20, x=1, y=-1))), ("not", ("not", ("not", least(-20, x=-1))))]:
            with self.assertRaises(InvalidFormula):
                simplified(formula)
        self.simple(("not", least(-19, x=1, y=-1)), least(20, x=-1, y=1))

    def test_depths(self):
        self.simple(nested(8), FALSE)
        self.simple(nested(7), TRUE)
        self.simple(nested(8, rest(0, 2, x=1)), ("not", rest(0, 2, x=1)))
        self.simple(nested(8, least(1, x=1)), least(0, x=-1))

    def test_drawn_formulas(self):
        draw = random.Random(2)
        refused = changed = 0
        for _ in range(500):
            formula = drawn_formula(draw, 5, ["x", "y"], draw.choice([3, 6, 20]))
            before = copy.deepcopy(formula)
            try:
                found = simplified(formula)
            except InvalidFormula:
                refused += 1
                continue
            changed += found != formula
            self.assertTrue(is_formula(found))
            self.assertEqual(simplified(found), found)
            self.assertLessEqual(depth(found), depth(formula))
            self.assertTrue(all(here == there for here, there in both_answers(formula, found, 4)))
            self.assertEqual(formula, before)
        self.assertLess(refused, 25)
        self.assertGreater(changed, 200)


class ReplacedTest(unittest.TestCase):
    def test_other_names(self):
        self.assertEqual(replaced(least(1, x=1, y=-2), {"x": "a", "y": "b"}), least(1, a=1, b=-2))
        self.assertEqual(replaced(rest(1, 3, x=1, y=-2), {"x": "z"}), rest(1, 3, z=1, y=-2))
        self.assertEqual(replaced(least(1, x=1), {}), least(1, x=1))
        self.assertEqual(replaced(TRUE, {"x": "y"}), TRUE)
        self.assertEqual(replaced(FALSE, {}), FALSE)

    def test_terms_stay_ascending(self):
        self.assertEqual(replaced(least(1, a=1, b=2, c=3), {"a": "d", "c": "aa"}), ("least", (("aa", 3), ("b", 2), ("d", 1)), 1))

    def test_names_that_are_exchanged(self):
        self.assertEqual(replaced(least(1, x=1, y=-2), {"x": "y", "y": "x"}), least(1, x=-2, y=1))
        self.assertEqual(replaced(rest(0, 5, x=1, y=2, z=3), {"x": "y", "y": "z", "z": "x"}), rest(0, 5, x=3, y=1, z=2))

    def test_two_variables_that_become_one(self):
        self.assertEqual(replaced(least(1, x=1, y=2), {"x": "y"}), least(1, y=3))
        self.assertEqual(replaced(least(1, x=1, y=2), {"x": "z", "y": "z"}), least(1, z=3))
        self.assertEqual(replaced(rest(1, 3, x=1, y=-3, z=4), {"z": "x"}), rest(1, 3, x=5, y=-3))

    def test_terms_that_cancel(self):
        self.assertEqual(replaced(least(1, x=2, y=-2, z=1), {"x": "y"}), least(1, z=1))
        self.assertEqual(replaced(rest(1, 3, x=2, y=-2, z=1), {"y": "x"}), rest(1, 3, z=1))

    def test_no_term_that_is_left(self):
        for bound, expected in [(0, TRUE), (-20, TRUE), (1, FALSE), (20, FALSE)]:
            self.assertEqual(replaced(least(bound, x=1, y=-1), {"x": "y"}), expected)
            self.assertEqual(replaced(("not", least(bound, x=1, y=-1)), {"y": "x"}), ("not", expected))
        for number, expected in [(0, TRUE), (1, FALSE), (4, FALSE)]:
            self.assertEqual(replaced(rest(number, 5, x=-3, y=3), {"x": "z", "y": "z"}), expected)

    def test_rests_are_not_lowered(self):
        self.assertEqual(replaced(rest(1, 3, x=2, y=1), {"x": "y"}), rest(1, 3, y=3))

    def test_factors_that_get_too_great(self):
        self.assertEqual(replaced(least(1, x=10, y=10), {"x": "y"}), least(1, y=20))
        self.assertEqual(replaced(least(1, x=-15, y=-5), {"x": "y"}), least(1, y=-20))
        for formula in [least(1, x=11, y=10), least(1, x=-20, y=-1), rest(1, 3, x=20, y=20)]:
            for whole in [formula, ("or", TRUE, formula)]:
                with self.assertRaises(InvalidFormula):
                    replaced(whole, {"x": "y"})
        self.assertEqual(replaced(least(1, x=20, y=20, z=-20), {"x": "z", "y": "z"}), least(1, z=20))

    def test_names_that_are_none_or_words(self):
        for name in ["", "X", "1", "x_", "abcdefghijklm", "a b", "and", "or", "not", "true", "false", "mod", "-x"]:
            for formula in [least(1, x=1), rest(1, 3, x=1, y=1), ("and", TRUE, ("not", least(1, x=1)))]:
                with self.assertRaises(InvalidFormula):
                    replaced(formula, {"x": name})

    def test_names_that_do_not_occur(self):
        self.assertEqual(replaced(least(1, x=1), {"y": "z", "z": "x"}), least(1, x=1))
        self.assertEqual(replaced(least(1, x=1), {"y": "and", "X": "1"}), least(1, x=1))
        self.assertEqual(replaced(TRUE, {"x": "and"}), TRUE)

    def test_names_of_variables_that_cancel(self):
        self.assertEqual(replaced(least(1, x=1, y=-1, z=1), {"x": "Z", "y": "Z"}), least(1, z=1))

    def test_parts(self):
        formula = ("and", ("or", least(1, x=1), rest(0, 2, y=1)), ("not", ("and", least(2, x=1, y=1), TRUE)))
        expected = ("and", ("or", least(1, y=1), rest(0, 2, z=1)), ("not", ("and", least(2, y=1, z=1), TRUE)))
        self.assertEqual(replaced(formula, {"x": "y", "y": "z"}), expected)

    def test_eight_variables_and_more(self):
        names = {f"v{number}": f"w{number}" for number in range(8)}
        self.assertEqual(variables(replaced(many_variables(8), names)), sorted(names.values()))
        with self.assertRaises(InvalidFormula):
            replaced(many_variables(9), names)
        with self.assertRaises(InvalidFormula):
            replaced(many_variables(9), {"v0": "w"})
        self.assertEqual(len(variables(replaced(many_variables(9), {"v0": "v1"}))), 8)

    def test_the_dict_stays_as_it_is(self):
        names = {"y": "x", "x": "y", "q": "Q"}
        formula = ("not", least(1, x=1, y=-2))
        replaced(formula, names)
        self.assertEqual(list(names.items()), [("y", "x"), ("x", "y"), ("q", "Q")])
        self.assertEqual(formula, ("not", least(1, x=1, y=-2)))

    def test_answers(self):
        draw = random.Random(3)
        told = 0
        for _ in range(300):
            formula = drawn_formula(draw, 4, ["x", "y", "z"], 6)
            names = {name: draw.choice(["x", "y", "z", "a"]) for name in draw.sample(["x", "y", "z"], draw.randint(0, 3))}
            found = replaced(formula, names)
            told += found != formula
            self.assertTrue(is_formula(found))
            for numbers in counts_up_to(4, 2):
                counts = dict(zip(["a", "x", "y", "z"], numbers))
                before = {name: counts[names.get(name, name)] for name in counts}
                self.assertEqual(answer(found, counts), answer(formula, before))
        self.assertGreater(told, 100)


class DifferenceTest(unittest.TestCase):
    def test_document(self):
        self.assertEqual(first_difference(least(1, x=1), least(1, x=1, y=1), 2), {"x": 0, "y": 1})

    def test_none(self):
        self.assertIsNone(first_difference(least(1, x=1), least(1, x=1), 5))
        self.assertIsNone(first_difference(least(1, x=1), ("not", least(0, x=-1)), 5))
        self.assertIsNone(first_difference(least(3, x=1), least(4, x=1), 2))
        self.assertEqual(first_difference(least(3, x=1), least(4, x=1), 3), {"x": 3})

    def test_no_variables(self):
        self.assertIsNone(first_difference(TRUE, ("not", FALSE), 3))
        for size in [0, 1, 7]:
            self.assertEqual(first_difference(TRUE, FALSE, size), {})

    def test_variables_of_one_formula_only(self):
        self.assertEqual(first_difference(TRUE, least(1, x=-1), 3), {"x": 0})
        self.assertEqual(first_difference(least(0, y=-1), TRUE, 3), {"y": 1})
        self.assertIsNone(first_difference(least(0, y=1), TRUE, 3))
        self.assertEqual(first_difference(least(2, x=1), least(2, y=1), 3), {"x": 0, "y": 2})
        self.assertEqual(first_difference(least(2, z=1), ("and", least(2, z=1), rest(0, 2, a=1)), 4), {"a": 1, "z": 2})

    def test_size_0(self):
        self.assertIsNone(first_difference(least(1, x=1), least(2, y=1), 0))
        self.assertEqual(first_difference(least(1, x=1), least(0, y=1), 0), {"x": 0, "y": 0})

    def test_order_of_the_counts(self):
        # The sum is looked at first, then the counts of the variables in ascending order.
        self.assertEqual(first_difference(FALSE, least(4, a=2, b=1), 5), {"a": 2, "b": 0})
        self.assertEqual(first_difference(FALSE, least(4, a=2, b=2), 5), {"a": 0, "b": 2})
        self.assertEqual(first_difference(FALSE, ("and", least(1, a=1), least(3, a=1, b=1)), 5), {"a": 1, "b": 2})
        self.assertEqual(list(first_difference(FALSE, least(3, c=1, a=1, b=2), 5).items()), [("a", 0), ("b", 1), ("c", 1)])

    def test_drawn_formulas(self):
        draw = random.Random(4)
        told = []
        for _ in range(300):
            first, second = [drawn_formula(draw, 3, draw.choice([["x"], ["x", "y"], ["y", "z"]]), 5) for _ in range(2)]
            found = first_difference(first, second, 4)
            self.assertEqual(found, naive_difference(first, second, 4))
            told.append(found is None)
        self.assertGreater(min(told.count(True), told.count(False)), 30)

    def test_many_variables(self):
        first = parse_formula(" + ".join([f"a{number}" for number in range(8)]) + " >= 3")
        second = parse_formula(" + ".join([f"b{number}" for number in range(8)]) + " >= 3")
        found = first_difference(first, second, 3)
        self.assertEqual(sum(found.values()), 3)
        self.assertEqual(found, {**{name: 0 for name in variables(first) + variables(second)}, "b7": 3})

    def test_changed_formulas_do_not_differ(self):
        draw = random.Random(5)
        for _ in range(100):
            formula = drawn_formula(draw, 4, ["x", "y"], 5)
            self.assertIsNone(first_difference(formula, simplified(formula), 4))
            self.assertIsNone(first_difference(("not", formula), negated(formula), 4))


if __name__ == "__main__":
    unittest.main()

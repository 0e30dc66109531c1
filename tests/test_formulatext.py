"""Points 14 and 15: written formulas, and the freedom with which they may be written."""

import random
import unittest
from itertools import product

from mingle.errors import InvalidFormula
from mingle.formulas import answer, depth, is_formula, variables
from mingle.formulatext import format_formula, parse_formula
from samples import FALSE, TRUE, counts_up_to, drawn_formula, least, many_variables, nested, rest

WORDS = ["and", "or", "not", "true", "false", "mod"]
X1 = least(1, x=1)
Y2 = least(2, y=1)


class WrittenTest(unittest.TestCase):
    """Each formula has its text, and the text its formula."""

    def check(self, formula, text):
        self.assertEqual(format_formula(formula), text)
        self.assertEqual(parse_formula(text), formula)

    def test_document(self):
        self.check(("and", least(1, x=2, y=-1), ("not", rest(1, 3, x=1))), "2 * x + -1 * y >= 1 and not x = 1 mod 3")
        self.assertEqual(format_formula(parse_formula("x + x < 3")), "-2 * x >= -2")

    def test_true_and_false(self):
        self.check(TRUE, "true")
        self.check(FALSE, "false")

    def test_least(self):
        self.check(least(3, x=1), "x >= 3")
        self.check(least(0, x=-1), "-1 * x >= 0")
        self.check(least(-20, x=20, y=-20), "20 * x + -20 * y >= -20")
        self.check(least(20, a=1, b2=2, b3=-3, zzzzzzzzzzzz=1), "a + 2 * b2 + -3 * b3 + zzzzzzzzzzzz >= 20")

    def test_rest(self):
        self.check(rest(0, 2, x=1), "x = 0 mod 2")
        self.check(rest(19, 20, x=-1, y=1, z=-20), "-1 * x + y + -20 * z = 19 mod 20")

    def test_not(self):
        self.check(("not", X1), "not x >= 1")
        self.check(("not", TRUE), "not true")
        self.check(("not", ("and", X1, FALSE)), "not ( x >= 1 and false )")
        self.check(("not", ("or", X1, FALSE)), "not ( x >= 1 or false )")

    def test_chains_of_not(self):
        for many in range(1, 9):
            self.check(nested(many), "not " * (many - 1) + "true")
        self.check(("not", ("not", ("or", ("not", ("not", X1)), TRUE))), "not not ( not not x >= 1 or true )")

    def test_and_and_or(self):
        self.check(("and", X1, Y2), "x >= 1 and y >= 2")
        self.check(("or", Y2, X1), "y >= 2 or x >= 1")
        self.check(("and", ("not", X1), ("not", Y2)), "not x >= 1 and not y >= 2")
        self.check(("or", ("not", ("and", X1, Y2)), Y2), "not ( x >= 1 and y >= 2 ) or y >= 2")

    def test_and_and_or_inside_each_other(self):
        for outer in ["and", "or"]:
            for inner in ["and", "or"]:
                self.check((outer, (inner, X1, Y2), TRUE), f"( x >= 1 {inner} y >= 2 ) {outer} true")
                self.check((outer, TRUE, (inner, X1, Y2)), f"true {outer} ( x >= 1 {inner} y >= 2 )")
                both = ((inner, X1, Y2), (outer, Y2, FALSE))
                text = f"( x >= 1 {inner} y >= 2 ) {outer} ( y >= 2 {outer} false )"
                self.check((outer, *both), text)
                self.check(("not", (outer, *both)), f"not ( {text} )")

    def test_parentheses_inside_each_other(self):
        formula = ("and", TRUE, FALSE)
        text = "true and false"
        for _ in range(6):
            formula, text = ("or", formula, TRUE), f"( {text} ) or true"
            self.check(formula, text)
        formula = ("and", TRUE, FALSE)
        text = "true and false"
        for _ in range(6):
            formula, text = ("or", TRUE, formula), f"true or ( {text} )"
            self.check(formula, text)

    def test_drawn_formulas(self):
        draw = random.Random(3)
        for _ in range(500):
            formula = drawn_formula(draw, draw.randint(1, 8), ["x", "y", "z1", "w"])
            text = format_formula(formula)
            self.assertEqual(parse_formula(text), formula, text)
            self.assertNotIn("  ", text)


class FreedomTest(unittest.TestCase):
    def check(self, text, formula):
        self.assertEqual(parse_formula(text), formula, text)

    def test_signs(self):
        self.check("x >= 3", least(3, x=1))
        self.check("x > 3", least(4, x=1))
        self.check("x <= 3", least(-3, x=-1))
        self.check("x < 3", least(-2, x=-1))
        self.check("x = 3", ("and", least(3, x=1), least(-3, x=-1)))
        self.check("2 * x + -3 * y <= -4", least(4, x=-2, y=3))
        self.check("2 * x + -3 * y < -4", least(5, x=-2, y=3))
        self.check("2 * x + -3 * y > -4", least(-3, x=2, y=-3))
        self.check("2 * x + -3 * y = -4", ("and", least(-4, x=2, y=-3), least(4, x=-2, y=3)))
        self.check("x = 0", ("and", least(0, x=1), least(0, x=-1)))

    def test_a_relation_stands_where_a_part_may_stand(self):
        two = ("and", least(2, x=1), least(-2, x=-1))
        self.check("not x = 2", ("not", two))
        self.check("x = 2 and x = 2", ("and", two, two))
        self.check("not ( x = 2 or x < 2 )", ("not", ("or", two, least(-1, x=-1))))

    def test_variables_several_times_and_in_any_order(self):
        self.check("y + x >= 1", least(1, x=1, y=1))
        self.check("z + 2 * x + y + -3 * z + x >= 1", least(1, x=3, y=1, z=-2))
        self.check("x + x + x = 1 mod 2", rest(1, 2, x=3))
        self.check("b + a + a1 + aa = 1 mod 2", rest(1, 2, a=1, a1=1, aa=1, b=1))
        self.check(" + ".join(["x"] * 20) + " >= 1", least(1, x=20))

    def test_factors_0_and_1(self):
        self.check("1 * x >= 1", least(1, x=1))
        self.check("1 * x + 0 * y >= 1", least(1, x=1))
        self.check("0 * y + x = 1 mod 2", rest(1, 2, x=1))
        self.check("1 * x + 1 * x >= 1", least(1, x=2))

    def test_variables_that_cancel_out(self):
        self.check("x + y + -1 * x >= 1", least(1, y=1))
        self.check("3 * x + y + -1 * x + -2 * x = 1 mod 3", rest(1, 3, y=1))
        self.check("y + -1 * y + x <= 2", least(-2, x=-1))

    def test_no_term_left(self):
        great = 10 ** 29
        for sum_text in ["0 * x", "x + -1 * x", "0 * x + 0 * y", "2 * x + y + -2 * x + -1 * y",
                         f"{great} * x + -{great} * x"]:
            for bound in [-great, -21, -20, -1, 0, 1, 20, 21, great]:
                self.check(f"{sum_text} >= {bound}", TRUE if 0 >= bound else FALSE)
                self.check(f"{sum_text} > {bound}", TRUE if 0 > bound else FALSE)
                self.check(f"{sum_text} <= {bound}", TRUE if 0 <= bound else FALSE)
                self.check(f"{sum_text} < {bound}", TRUE if 0 < bound else FALSE)
                self.check(f"{sum_text} = {bound}", TRUE if bound == 0 else FALSE)
            for number, modulus, expected in [(0, 2, TRUE), (1, 2, FALSE), (4, 2, TRUE), (-6, 3, TRUE), (-5, 3, FALSE),
                                              (20, 20, TRUE), (-20, 20, TRUE), (20, 19, FALSE)]:
                self.check(f"{sum_text} = {number} mod {modulus}", expected)
        self.check("not 0 * x = 5 and x >= 1", ("and", ("not", FALSE), least(1, x=1)))

    def test_rests(self):
        for modulus in [2, 3, 7, 19, 20]:
            for number in range(-20, 21):
                self.check(f"x = {number} mod {modulus}", rest(number % modulus, modulus, x=1))

    def test_ends_of_the_ranges_of_bounds(self):
        self.check("x > 19", least(20, x=1))
        self.check("x > -21", least(-20, x=1))
        self.check("x <= 20", least(-20, x=-1))
        self.check("x <= -20", least(20, x=-1))
        self.check("x < 21", least(-20, x=-1))
        self.check("x < -19", least(20, x=-1))
        self.check("x = 20", ("and", least(20, x=1), least(-20, x=-1)))
        self.check("x = -20", ("and", least(-20, x=1), least(20, x=-1)))
        for text in ["x >= 21", "x >= -21", "x > 20", "x > -22", "x <= 21", "x <= -21", "x < 22", "x < -20", "x = 21",
                     "x = -21"]:
            with self.assertRaises(InvalidFormula, msg=text):
                parse_formula(text)

    def test_ends_of_the_ranges_of_factors(self):
        self.check("20 * x + -20 * y >= 1", least(1, x=20, y=-20))
        self.check("20 * x + -20 * y <= 1", least(-1, x=-20, y=20))
        self.check("21 * x + -1 * x >= 1", least(1, x=20))
        self.check("-1 * x + 500 * y + -19 * x + -501 * y = 1 mod 2", rest(1, 2, x=-20, y=-1))
        for text in ["21 * x", "-21 * x", "20 * x + x", "-20 * x + y + -1 * x"]:
            for behind in [">= 1", "<= 1", "= 1", "= 1 mod 2"]:
                with self.assertRaises(InvalidFormula, msg=text):
                    parse_formula(f"{text} {behind}")

    def test_thirty_digits(self):
        great = "9" * 30
        self.check(f"{great} * x + -{great} * x + y >= 1", least(1, y=1))
        self.check(f"0 * x >= -{great}", TRUE)
        self.check(f"0 * x >= {great}", FALSE)

    def test_depth_of_the_result(self):
        two = ("and", least(2, x=1), least(-2, x=-1))
        self.check("not " * 6 + "x = 2", nested(7, two))
        self.check("not " * 7 + "0 * x = 2", nested(8, FALSE))
        for text in ["not " * 7 + "x = 2", "( " + "not " * 5 + "x = 2 and true ) or true"]:
            with self.assertRaises(InvalidFormula, msg=text):
                parse_formula(text)

    def test_variables_of_the_result(self):
        eight = " + ".join([f"v{number}" for number in range(8)])
        self.assertEqual(len(variables(parse_formula(f"{eight} >= 1"))), 8)
        self.assertEqual(len(variables(parse_formula(f"{eight} + v8 + -1 * v8 >= 1"))), 8)
        self.assertEqual(len(variables(parse_formula(f"{eight} >= 1 and 0 * v8 + 0 * v9 >= 1"))), 8)

    def test_meaning(self):
        draw = random.Random(4)
        holds = {">=": int.__ge__, "<=": int.__le__, ">": int.__gt__, "<": int.__lt__, "=": int.__eq__}
        for _ in range(400):
            terms = [(draw.choice("xyz"), draw.randint(-4, 4)) for _ in range(draw.randint(1, 5))]
            sign = draw.choice(list(holds))
            bound = draw.randint(-5, 5)
            modulus = draw.randint(2, 6) if sign == "=" and draw.random() < 0.7 else None
            words = [name if number == 1 and draw.random() < 0.5 else f"{number} * {name}" for name, number in terms]
            sum_text = " + ".join(words)
            text = f"{sum_text} {sign} {bound}" + (f" mod {modulus}" if modulus else "")
            formula = parse_formula(text)
            self.assertTrue(is_formula(formula))
            for x, y, z in counts_up_to(3, 3):
                counts = {"x": x, "y": y, "z": z}
                value = sum(number * counts[name] for name, number in terms)
                expected = (value - bound) % modulus == 0 if modulus else holds[sign](value, bound)
                self.assertIs(answer(formula, counts), expected, text)


class RefusedTest(unittest.TestCase):
    def refuse(self, *texts):
        for text in texts:
            with self.assertRaises(InvalidFormula, msg=text):
                parse_formula(text)

    def test_empty(self):
        self.refuse("", " ", "  ")

    def test_spaces(self):
        for text in ["x >= 1", "2 * x + y = 1 mod 3", "not true", "( x >= 1 or true ) and not false"]:
            parse_formula(text)
            self.refuse(" " + text, text + " ")
            for at, sign in enumerate(text):
                if sign == " ":
                    self.refuse(text[:at] + " " + text[at:], text[:at] + text[at + 1:])

    def test_numbers(self):
        for number in ["01", "00", "-01", "-0", "+1", "+0", "--1", "-", "1.0", "1e1", "0x1", "1_0", "- 1", "one", "x",
                       "", "1" * 31, "-" + "1" * 31, "0" * 31]:
            self.refuse(f"x >= {number}", f"0 * x >= {number}", f"x = {number} mod 2", f"x = 1 mod {number}",
                        f"{number} * x + y >= 1", f"x + {number} * x >= 1", f"x = {number}")

    def test_bare_integers(self):
        self.refuse("3 >= 1", "x + 3 >= 4", "3 + x >= 4", "0 >= 0", "0 = 0 mod 2", "x >= y", "3 >= x", "x >= 1 + 1",
                    "x >= 2 * y", "x >= 1 * 2", "2 * 3 * x >= 1", "2 * 3 >= 1", "x * 2 >= 1", "2 x >= 1", "x y >= 1")

    def test_sums(self):
        self.refuse(">= 1", "+ x >= 1", "x + >= 1", "x + + y >= 1", "x - y >= 1", "2 * >= 1", "* x >= 1", "- x >= 1",
                    "-x >= 1", "2 * * x >= 1", "( x ) >= 1", "( x + y ) >= 1", "2 * ( x + y ) >= 1")

    def test_words_in_the_place_of_variables(self):
        for word in WORDS + ["X", "x_1", "a" * 13, "x-", "1x", "+", "*", "(", ")", "="]:
            self.refuse(f"{word} >= 1", f"2 * {word} >= 1", f"x + {word} >= 1", f"0 * {word} = 1 mod 2",
                        f"{word} + x = 1 mod 2")

    def test_relations(self):
        self.refuse("x", "2 * x", "x >=", "x =", "x 1", "x >= >= 1", "x == 1", "x != 1", "x => 1", "x =< 1", "x ge 1",
                    "x >= 1 mod 2", "x < 1 mod 2", "x <= 1 mod 2", "x > 1 mod 2", "x = mod 2", "x = 1 mod",
                    "x = 1 mod 2 mod 3", "x mod 2 = 1", "1 <= x", "1 <= x <= 3", "x >= 1 >= 1")

    def test_modulus_and_rest_out_of_range(self):
        for sum_text in ["x", "0 * x", "x + -1 * x"]:
            for number, modulus in [(0, 1), (0, 0), (0, -2), (0, 21), (0, 10 ** 29), (21, 2), (-21, 2), (21, 20),
                                    (10 ** 29, 3)]:
                self.refuse(f"{sum_text} = {number} mod {modulus}")

    def test_parentheses(self):
        self.refuse("( x >= 1 and true", "x >= 1 and true )", "x >= 1 and ( true or false", "( true or false and true",
                    "( true or false ) )", "( ( true or false ) and true", "not ( true or false", "not ) true",
                    "( )", "(", ")", "true ( or true )", "x >= 1 or ( )")

    def test_parentheses_too_many(self):
        self.refuse("( x >= 1 and true )", "( true or false )", "( true )", "( x >= 1 )", "( not true )",
                    "not ( true )", "not ( x >= 1 )", "( x >= 1 ) and true", "true and ( x >= 1 )",
                    "( not true ) and true", "( x = 1 mod 2 ) or true", "( x = 1 ) or true", "not ( x = 1 )",
                    "( ( true or false ) ) and true", "not ( ( true or false ) )", "not ( not true )")

    def test_parentheses_that_are_missing(self):
        self.refuse("true and true and true", "true or true or true", "true and true or true", "true or true and true",
                    "not true or true and true", "( true and true and true ) or true")

    def test_words_behind(self):
        self.refuse("true true", "x >= 1 x", "x >= 1 1", "true not", "true and", "true or", "and true",
                    "true and and true", "not", "true false", "( true or true ) true", "true and true true",
                    "x = 1 mod 2 3", "not true not true")

    def test_depth(self):
        self.refuse("not " * 8 + "true", "not " * 50 + "true", "not " * 20000 + "true",
                    "( " * 8 + "true" + " and true )" * 8 + " and true", "( " * 20000 + "true", "( " * 20000,
                    "true and not not not not not not not true", "not not not not not not not true or true")
        parse_formula("( " * 6 + "true" + " and true )" * 6 + " and true")

    def test_variables(self):
        nine = " + ".join([f"v{number}" for number in range(9)])
        self.refuse(f"{nine} >= 1", f"{nine} = 1 mod 2", f"not {nine} >= 1", format_formula(many_variables(9)))
        parse_formula(format_formula(many_variables(8)))

    def test_other_words(self):
        self.refuse("True", "TRUE", "NOT true", "true AND true", "true & true", "! true", "true xor false",
                    "x >= 1 & true", "least", "true;", "yes", "x >= 1 mod", "mod", "x in 1")

    def test_wrong_parts_of_right_texts(self):
        draw = random.Random(6)
        for _ in range(200):
            words = format_formula(drawn_formula(draw, 4, ["x", "y"])).split(" ")
            at = draw.randrange(len(words))
            self.refuse(" ".join(words[:at] + ["?"] + words[at + 1:]), " ".join(words[:at] + [""] + words[at:]))


class ResultTest(unittest.TestCase):
    def test_no_other_words_and_parentheses(self):
        """A text without freedom is accepted only if it is the very text of its formula."""
        accepted = {}
        for many in range(1, 8):
            for words in product(["true", "not", "and", "(", ")"], repeat=many):
                text = " ".join(words)
                try:
                    formula = parse_formula(text)
                except InvalidFormula:
                    continue
                accepted[many] = accepted.get(many, 0) + 1
                self.assertEqual(format_formula(formula), text)
        # Counted by hand: a part of n words is "true", "not" and a part, or an "and" of n - 2 words in parentheses.
        self.assertEqual(accepted, {1: 1, 2: 1, 3: 2, 4: 3, 5: 4, 6: 6, 7: 11})

    def test_only_formulas(self):
        """Whatever words stand behind each other: the text is refused, or it means a formula."""
        draw = random.Random(7)
        known = ["x", "y", "+", "*", ">=", "<", "=", "mod", "1", "2", "-3", "and", "or", "not", "true", "(", ")"]
        accepted = 0
        for _ in range(20000):
            text = " ".join(draw.choice(known) for _ in range(draw.randint(1, 7)))
            try:
                formula = parse_formula(text)
            except InvalidFormula:
                continue
            accepted += 1
            self.assertTrue(is_formula(formula))
            self.assertLessEqual(depth(formula), 8)
            self.assertEqual(parse_formula(format_formula(formula)), formula)
        self.assertGreater(accepted, 100)


if __name__ == "__main__":
    unittest.main()

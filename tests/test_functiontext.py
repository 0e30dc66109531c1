"""Point 65: written functions."""

import random
import unittest

from mingle.errors import InvalidFunction
from mingle.functions import is_function
from mingle.functiontext import format_function, parse_function
from mingle.protocols import is_name

X, Y = (("x", 1),), (("y", 1),)
TEXTS = {
    "sum ( x )": ("sum", X),
    "sum ( 9 * a + b + 2 * c1 )": ("sum", (("a", 9), ("b", 1), ("c1", 2))),
    "quotient ( x ) by 2": ("quotient", X, 2),
    "quotient ( x + 3 * y ) by 20": ("quotient", (("x", 1), ("y", 3)), 20),
    "min ( x + 2 * y ) ( 3 * z )": ("min", (("x", 1), ("y", 2)), (("z", 3),)),
    "max ( x ) ( x )": ("max", X, X),
    "less ( 2 * x + y ) ( y )": ("less", (("x", 2), ("y", 1)), Y),
    "less ( y ) ( x )": ("less", Y, X),
}
WRONG_SUMS = [
    "", " ", "+", "x +", "+ x", "x  + y", "x y", "x + + y", "2", "x + 2", "2 x", "2 *", "* x", "x * 2", "2 * 3", "2 * 3 * x",
    "2* x", "2 *x", "2*x", "x+y", "X", "and", "mod", "true", "not x", "abcdefghijklm", "1x", "x_", "( x )", "x )", "( x",
    "02 * x", "+2 * x", "-0 * x", "- 2 * x", "00 * x", "x - y", "2 . x", "x , y", "x >= 1", "10 * x", "-1 * x", "-9 * x",
    "0 * x", "x + 9 * x", "x + -1 * x", "5 * x + -5 * x", "x + -1 * y", "x + -2 * x", "0 * x + 0 * y",
    f"{10 ** 30} * x + -{10 ** 30 - 1} * x", "x + " + "0" * 2 + " * y",
]


class FunctionTextTest(unittest.TestCase):
    def wrong(self, text):
        with self.assertRaises(InvalidFunction, msg=text):
            parse_function(text)

    def test_document(self):
        self.assertEqual(parse_function("min ( x + 2 * y ) ( 3 * z )"), ("min", (("x", 1), ("y", 2)), (("z", 3),)))

    def test_both_ways(self):
        for text, function in TEXTS.items():
            self.assertEqual(parse_function(text), function)
            self.assertEqual(format_function(function), text)

    def test_drawn_functions(self):
        draw = random.Random(1)

        def terms():
            return tuple([(name, draw.randint(1, 9)) for name in sorted(draw.sample("abcdxyz", draw.randint(1, 4)))])

        for _ in range(200):
            word = draw.choice(["sum", "quotient", "min", "max", "less"])
            last = {"sum": (), "quotient": (draw.randint(2, 20),)}.get(word, (terms(),))
            function = (word, terms(), *last)
            self.assertEqual(parse_function(format_function(function)), function)

    def test_freedom_of_sums(self):
        for text, terms in [("1 * x", X), ("y + x", (("x", 1), ("y", 1))), ("x + x", (("x", 2),)), ("x + 0 * y", X),
                            ("b + 2 * a + b + -1 * a", (("a", 1), ("b", 2))), ("0 * y + x", X), ("x + y + -1 * y", X),
                            ("12 * x + -3 * x", (("x", 9),)), ("-8 * x + 9 * x", X), ("x + 0 * x", X),
                            (f"{10 ** 29} * x + -{10 ** 29 - 1} * x", X), ("5 * x + -5 * x + y", Y)]:
            self.assertEqual(parse_function(f"sum ( {text} )"), ("sum", terms))
            self.assertEqual(parse_function(f"quotient ( {text} ) by 3"), ("quotient", terms, 3))
            for word in ["min", "max", "less"]:
                self.assertEqual(parse_function(f"{word} ( {text} ) ( y )"), (word, terms, Y))
                self.assertEqual(parse_function(f"{word} ( y ) ( {text} )"), (word, Y, terms))

    def test_words_of_functions_are_variables(self):
        for name in ["sum", "quotient", "by", "min", "max", "less"]:
            self.assertEqual(parse_function(f"sum ( 2 * {name} )"), ("sum", ((name, 2),)))
            self.assertEqual(parse_function(f"less ( {name} ) ( x )"), ("less", ((name, 1),), X))
        self.assertEqual(parse_function("quotient ( by ) by 2"), ("quotient", (("by", 1),), 2))

    def test_words(self):
        for word in ["", "Sum", "SUM", "sums", "su", "total", "x", "2", "(", "least", "and", "minus", "median", "q0"]:
            self.wrong(f"{word} ( x )")
            self.wrong(f"{word} ( x ) ( y )")
            self.wrong(f"{word} ( x ) by 2")
        self.wrong("( x )")
        self.wrong("x")
        self.wrong("x + y")

    def test_words_of_other_kinds(self):
        self.wrong("sum ( x ) ( y )")
        self.wrong("sum ( x ) by 2")
        for word in ["min", "max", "less"]:
            self.wrong(f"{word} ( x )")
            self.wrong(f"{word} ( x ) by 2")
            self.wrong(f"{word} ( x ) ( y ) ( z )")
        self.wrong("quotient ( x )")
        self.wrong("quotient ( x ) ( y )")
        self.wrong("quotient ( x ) ( y ) by 2")

    def test_sums(self):
        for text in WRONG_SUMS:
            self.wrong(f"sum ( {text} )")
            self.wrong(f"quotient ( {text} ) by 2")
            for word in ["min", "max", "less"]:
                self.wrong(f"{word} ( {text} ) ( y )")
                self.wrong(f"{word} ( y ) ( {text} )")

    def test_parentheses(self):
        for text in ["sum x", "sum ( x", "sum x )", "sum (x)", "sum ( x)", "sum (x )", "sum(x)", "sum( x )", "sum [ x ]",
                     "sum ( )", "sum ()", "sum (", "sum", "sum ( ( x ) )", "sum ( x ) )", "sum ) x (", "min ( x ( y )",
                     "min ( x ) y )", "min ( x ) ( y", "min ( x ) (", "min ( x )", "min x y", "min ( x y )", "min ( x , y )",
                     "min ( ) ( y )", "min ( x ) ( )", "( sum ( x ) )", "quotient ( x by 2", "quotient x ) by 2"]:
            self.wrong(text)

    def test_spaces(self):
        for text in TEXTS:
            self.wrong(" " + text)
            self.wrong(text + " ")
            for at, sign in enumerate(text):
                if sign == " ":
                    self.wrong(text[:at] + " " + text[at:])
                    self.wrong(text[:at] + text[at + 1:])

    def test_by_and_the_divisor(self):
        for text in ["by", "2", "by 2 3", "By 2", "by by", "by x", "/ 2", "by -2", "by +2", "by 02", "by 002", "by 2.", "by 2 x",
                     "by  2", "by 0", "by 1", "by 21", "by 00", "by -0", "by 2 by 2", "by ( 2 )", f"by {10 ** 29}",
                     f"by {10 ** 30}", "of 2", "by two"]:
            self.wrong(f"quotient ( x ) {text}")
        for divisor in range(2, 21):
            self.assertEqual(parse_function(f"quotient ( x ) by {divisor}"), ("quotient", X, divisor))

    def test_factors(self):
        for factor in range(1, 10):
            self.assertEqual(parse_function(f"sum ( {factor} * x )"), ("sum", (("x", factor),)))
        for factor in [0, 10, 11, -1, -9]:
            self.wrong(f"sum ( {factor} * x )")
        self.wrong("sum ( x + 0 * y + 10 * z )")
        self.wrong("sum ( 5 * x + 5 * x )")
        self.assertEqual(parse_function("sum ( 5 * x + 4 * x )"), ("sum", (("x", 9),)))

    def test_eight_variables_and_nine(self):
        eight = " + ".join([f"v{number}" for number in range(8)])
        self.assertEqual(len(parse_function(f"sum ( {eight} )")[1]), 8)
        self.wrong(f"sum ( {eight} + w )")
        self.wrong(f"quotient ( {eight} + w ) by 2")
        for word in ["min", "max", "less"]:
            self.assertEqual(parse_function(f"{word} ( {eight} ) ( v0 )")[2], (("v0", 1),))
            self.wrong(f"{word} ( {eight} ) ( w )")
            self.wrong(f"{word} ( w ) ( {eight} )")
        # A variable whose terms cancel is not there.
        self.assertEqual(len(parse_function(f"sum ( {eight} + w + -1 * w )")[1]), 8)

    def test_something_behind_the_end(self):
        for text in TEXTS:
            for more in ["x", "(", ")", "by 2", "( x )", "+ x", "sum ( x )", "and true", "2"]:
                if f"{text} {more}" not in TEXTS:
                    self.wrong(f"{text} {more}")

    def test_the_empty_text(self):
        self.wrong("")
        self.wrong(" ")

    def test_texts_that_are_cut_off(self):
        for text in TEXTS:
            for end in range(len(text)):
                # What is left of "by 20" may be a divisor, too.
                if text[:end] != "quotient ( x + 3 * y ) by 2":
                    self.wrong(text[:end])

    def test_words_that_are_left_out_or_exchanged(self):
        for text in TEXTS:
            words = text.split(" ")
            for at in range(len(words)):
                self.told_or_refused(words[:at] + words[at + 1:])
                for other in ["(", ")", "+", "*", "by", "x", "2", "sum", "min", ""]:
                    self.told_or_refused(words[:at] + [other] + words[at + 1:])

    def told_or_refused(self, words):
        """Whatever is accepted is a function that is written with the same names and words."""
        try:
            function = parse_function(" ".join(words))
        except InvalidFunction:
            return
        self.assertTrue(is_function(function))
        self.assertEqual(words[0], function[0])
        written = [word for word in words[1:] if is_name(word)]
        self.assertEqual(sorted(set(written)), sorted({word for word in format_function(function).split(" ")[1:] if is_name(word)}))


if __name__ == "__main__":
    unittest.main()

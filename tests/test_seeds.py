"""Points 16 to 19: seeds."""

import random
import unittest
from itertools import product

from mingle.formulas import variables
from mingle.seeds import first_mark, mark_answer, meet_marks
from samples import FALSE, TRUE, drawn_formula, least, rest

LEAST = least(1, x=2, y=-1)
REST = rest(1, 3, x=2, y=-1)


def occurring(formula):
    """The marks that can occur, found in the plainest way, with one variable that is not in the terms."""
    marks = {first_mark(formula, name) for name in variables(formula) + ["other"]}
    while True:
        more = {mark for first in marks for second in marks for mark in meet_marks(formula, first, second)}
        if more <= marks:
            return sorted(marks)
        marks |= more


class SeedTest(unittest.TestCase):
    def begins(self, formula, **marks):
        for name, mark in marks.items():
            self.assertEqual(first_mark(formula, name), mark)

    def meets(self, formula, *rows):
        for first, second, third, fourth in rows:
            self.assertEqual(meet_marks(formula, first, second), (third, fourth), (first, second))

    def stays(self, formula, *pairs):
        for first, second in pairs:
            self.assertEqual(meet_marks(formula, first, second), (first, second))

    def answers(self, formula, *rows):
        for mark, told in rows:
            found = mark_answer(formula, mark)
            self.assertEqual(found, told, mark)
            self.assertIs(type(found), int)


class LeastTest(SeedTest):
    def test_first_marks(self):
        self.begins(LEAST, x=(1, 1, 2), y=(1, 0, -1), z=(1, 0, 0), another=(1, 0, 0))
        self.begins(least(2, x=2, y=1), x=(1, 1, 2), y=(1, 0, 1), z=(1, 0, 0))

    def test_bounds_of_0_and_below(self):
        self.begins(least(0, x=-1, y=1), x=(1, 0, -1), y=(1, 1, 1), z=(1, 1, 0))
        self.begins(least(-3, x=-3, y=-4), x=(1, 1, -3), y=(1, 0, -4), z=(1, 1, 0))
        self.meets(least(0, x=-1), ((1, 0, -1), (1, 0, -1), (1, 0, -1), (0, 0, -1)))
        self.meets(least(0, x=-1, y=1), ((1, 0, -1), (1, 1, 1), (1, 1, 0), (0, 1, 0)))
        # s is 4 here, 1 more than 3.
        self.meets(least(-3, x=-1),
                   ((1, 1, -1), (1, 1, -1), (1, 1, -2), (0, 1, 0)),
                   ((1, 1, -2), (1, 1, -2), (1, 0, -4), (0, 0, 0)),
                   ((1, 0, -4), (1, 1, -1), (1, 0, -4), (0, 0, -1)),
                   ((1, 0, -4), (1, 0, -4), (1, 0, -4), (0, 0, -4)))

    def test_both_lead(self):
        self.meets(LEAST,
                   ((1, 1, 2), (1, 0, -1), (1, 1, 1), (0, 1, 0)),
                   ((1, 0, -1), (1, 1, 2), (1, 1, 1), (0, 1, 0)),
                   ((1, 0, -1), (1, 1, 1), (1, 0, 0), (0, 0, 0)),
                   ((1, 0, -1), (1, 0, -1), (1, 0, -2), (0, 0, 0)))

    def test_one_leads(self):
        self.meets(LEAST,
                   ((1, 0, -1), (0, 1, 2), (1, 1, 1), (0, 1, 0)),
                   ((0, 1, 2), (1, 0, -1), (1, 1, 1), (0, 1, 0)),
                   ((0, 1, 0), (1, 0, 0), (1, 0, 0), (0, 0, 0)),
                   ((1, 1, 1), (0, 0, -2), (1, 0, -1), (0, 0, 0)))
        self.stays(LEAST, ((1, 1, 2), (0, 1, 0)), ((1, 0, 0), (0, 0, 0)))

    def test_none_leads(self):
        self.stays(LEAST, ((0, 1, 2), (0, 0, -2)), ((0, 0, 0), (0, 1, 0)), ((0, 1, 2), (0, 1, 2)))

    def test_sums_beyond_s_on_either_side(self):
        self.meets(LEAST,
                   ((1, 1, 2), (1, 1, 2), (1, 1, 2), (0, 1, 2)),
                   ((1, 1, 2), (1, 1, 1), (1, 1, 2), (0, 1, 1)),
                   ((1, 1, 1), (0, 1, 2), (1, 1, 2), (0, 1, 1)),
                   ((0, 1, 2), (1, 1, 1), (1, 1, 2), (0, 1, 1)),
                   ((1, 0, -2), (1, 0, -2), (1, 0, -2), (0, 0, -2)),
                   ((1, 0, -2), (0, 0, -1), (1, 0, -2), (0, 0, -1)),
                   ((0, 0, -1), (1, 0, -2), (1, 0, -2), (0, 0, -1)))

    def test_s_is_the_greatest_of_factors_and_bound(self):
        for formula, greatest in [(least(1, x=1), 2), (least(1, x=5), 5), (least(1, x=-5, y=3), 5), (least(4, x=-5), 5),
                                  (least(5, x=-5), 6), (least(-5, x=5), 6), (least(20, x=20), 21),
                                  (least(-20, x=1), 21), (least(0, x=1), 1)]:
            bound = formula[2]
            for end in [greatest, -greatest]:
                told = 1 if end >= bound else 0
                mark = (1, told, end)
                self.assertEqual(meet_marks(formula, mark, mark), (mark, (0, told, end)))

    def test_answers(self):
        self.answers(LEAST, ((1, 1, 2), 1), ((1, 0, -1), 0), ((0, 1, 0), 1), ((0, 0, 2), 0), ((0, 1, -2), 1))

    def test_by_the_words_of_the_point(self):
        draw = random.Random(8)
        for _ in range(30):
            factors = {name: draw.choice([-4, -3, -2, -1, 1, 2, 3]) for name in draw.sample("xyz", draw.randint(1, 3))}
            bound = draw.randint(-4, 4)
            formula = least(bound, **factors)
            greatest = max([abs(factor) for factor in factors.values()] + [abs(bound) + 1])
            marks = occurring(formula)
            for first, second in product(marks, marks):
                third, fourth = meet_marks(formula, first, second)
                if first[0] + second[0] == 0:
                    self.assertEqual((third, fourth), (first, second))
                    continue
                wanted = first[2] + second[2]
                nearest = min(range(-greatest, greatest + 1), key=lambda q: abs(q - wanted))
                told = int(nearest >= bound)
                self.assertEqual((third, fourth), ((1, told, nearest), (0, told, wanted - nearest)))


class RestTest(SeedTest):
    def test_first_marks(self):
        self.begins(REST, x=(1, 2), y=(1, 2), z=(1, 0))
        self.begins(rest(0, 20, x=20, y=-20, z=-1), x=(1, 0), y=(1, 0), z=(1, 19), w=(1, 0))
        self.begins(rest(0, 7, x=15), x=(1, 1))

    def test_both_lead(self):
        self.meets(REST,
                   ((1, 2), (1, 2), (1, 1), (0, 1)),
                   ((1, 1), (1, 2), (1, 0), (0, 0)),
                   ((1, 2), (1, 1), (1, 0), (0, 0)),
                   ((1, 0), (1, 1), (1, 1), (0, 1)),
                   ((1, 1), (1, 1), (1, 2), (0, 0)))

    def test_one_leads(self):
        self.meets(REST,
                   ((1, 1), (0, 0), (1, 1), (0, 1)),
                   ((0, 0), (1, 1), (0, 1), (1, 1)),
                   ((1, 2), (0, 1), (1, 2), (0, 0)),
                   ((0, 1), (1, 0), (0, 0), (1, 0)))
        self.stays(REST, ((1, 1), (0, 1)), ((0, 1), (1, 1)), ((1, 0), (0, 0)), ((0, 0), (1, 2)))

    def test_none_leads(self):
        self.stays(REST, ((0, 0), (0, 1)), ((0, 1), (0, 0)), ((0, 0), (0, 0)), ((0, 1), (0, 1)))

    def test_answers(self):
        self.answers(REST, ((1, 0), 0), ((1, 1), 1), ((1, 2), 0), ((0, 0), 0), ((0, 1), 1))
        self.answers(rest(0, 2, x=1), ((1, 0), 1), ((1, 1), 0), ((0, 0), 0), ((0, 1), 1))


class OtherTest(SeedTest):
    def test_true_and_false(self):
        for formula, told in [(TRUE, 1), (FALSE, 0)]:
            self.begins(formula, x=(), z=())
            self.stays(formula, ((), ()))
            self.answers(formula, ((), told))

    def test_not(self):
        for inner in [LEAST, REST, TRUE, FALSE, ("not", REST), ("or", LEAST, REST)]:
            formula = ("not", inner)
            self.begins(formula, **{name: first_mark(inner, name) for name in "xyz"})
            marks = occurring(inner)[::3]
            for mark in marks:
                self.answers(formula, (mark, 1 - mark_answer(inner, mark)))
            for first, second in product(marks, marks):
                self.meets(formula, (first, second, *meet_marks(inner, first, second)))

    def test_and_and_or(self):
        for word in ["and", "or"]:
            formula = (word, LEAST, REST)
            self.begins(formula, x=((1, 1, 2), (1, 2)), y=((1, 0, -1), (1, 2)), z=((1, 0, 0), (1, 0)))
            self.meets(formula,
                       (((1, 1, 2), (1, 2)), ((1, 0, -1), (1, 2)), ((1, 1, 1), (1, 1)), ((0, 1, 0), (0, 1))),
                       (((0, 1, 0), (0, 1)), ((1, 0, 0), (1, 0)), ((1, 0, 0), (0, 0)), ((0, 0, 0), (1, 0))))
            self.stays(formula, (((0, 0, 0), (0, 1)), ((0, 1, 0), (0, 0))))
        rows = [((0, 0, 0), (0, 0)), ((0, 0, 0), (0, 1)), ((0, 1, 0), (0, 0)), ((0, 1, 0), (0, 1))]
        self.answers(("and", LEAST, REST), *zip(rows, [0, 0, 0, 1]))
        self.answers(("or", LEAST, REST), *zip(rows, [0, 1, 1, 1]))

    def test_parts_that_are_pairs_themselves(self):
        formula = ("or", ("and", REST, ("not", TRUE)), ("or", FALSE, LEAST))
        self.begins(formula, x=(((1, 2), ()), ((), (1, 1, 2))), z=(((1, 0), ()), ((), (1, 0, 0))))
        first = (((1, 2), ()), ((), (1, 1, 2)))
        self.meets(formula, (first, first, (((1, 1), ()), ((), (1, 1, 2))), (((0, 1), ()), ((), (0, 1, 2)))))
        self.answers(formula, (first, 1), ((((1, 1), ()), ((), (1, 0, 0))), 0))

    def test_parts_do_what_they_do_by_themselves(self):
        draw = random.Random(9)
        for _ in range(20):
            left, right = [drawn_formula(draw, 2, ["x", "y"], 2) for _ in range(2)]
            left_marks, right_marks = occurring(left), occurring(right)
            for word, chosen in [("and", min), ("or", max)]:
                formula = (word, left, right)
                for _ in range(20):
                    first, second = [(draw.choice(left_marks), draw.choice(right_marks)) for _ in range(2)]
                    lefts = meet_marks(left, first[0], second[0])
                    rights = meet_marks(right, first[1], second[1])
                    self.assertEqual(meet_marks(formula, first, second), tuple(zip(lefts, rights)))
                    told = chosen(mark_answer(left, first[0]), mark_answer(right, first[1]))
                    self.answers(formula, (first, told))


if __name__ == "__main__":
    unittest.main()

"""Points 39 and 40: exact fractions and linear equations."""

import copy
import random
import unittest
from fractions import Fraction

from mingle.fractions import fraction, is_less, minus, over, plus, solve, times


def told(number):
    """The pair of a fraction of Python's own, or of an integer."""
    return (Fraction(number).numerator, Fraction(number).denominator)


def wholes(rows):
    """Rows of fractions from rows of integers."""
    return [[(number, 1) for number in row] for row in rows]


def drawn_fraction(draw, greatest):
    return Fraction(draw.randint(-greatest, greatest), draw.randint(1, greatest))


def rank(rows):
    """The rank of rows of Python's fractions, by plain elimination."""
    rows = [list(row) for row in rows]
    found = 0
    for column in range(len(rows[0]) if rows else 0):
        at = next((k for k in range(found, len(rows)) if rows[k][column] != 0), None)
        if at is None:
            continue
        rows[found], rows[at] = rows[at], rows[found]
        for k in range(found + 1, len(rows)):
            share = rows[k][column] / rows[found][column]
            rows[k] = [here - share * there for here, there in zip(rows[k], rows[found])]
        found += 1
    return found


class FractionTest(unittest.TestCase):
    def test_lowest_terms(self):
        for numerator, denominator, expected in [
            (1, 2, (1, 2)), (2, 4, (1, 2)), (6, 3, (2, 1)), (7, 1, (7, 1)), (12, 18, (2, 3)), (35, 49, (5, 7)),
            (5, 5, (1, 1)), (100, 75, (4, 3)),
        ]:
            self.assertEqual(fraction(numerator, denominator), expected)

    def test_signs(self):
        for numerator, denominator, expected in [
            (-1, 2, (-1, 2)), (1, -2, (-1, 2)), (-1, -2, (1, 2)), (-6, 4, (-3, 2)), (6, -4, (-3, 2)), (-6, -4, (3, 2)),
            (-8, 4, (-2, 1)), (8, -1, (-8, 1)), (-3, -3, (1, 1)),
        ]:
            self.assertEqual(fraction(numerator, denominator), expected)

    def test_0(self):
        for denominator in [1, 7, -1, -12, 10 ** 29, -(10 ** 29)]:
            self.assertEqual(fraction(0, denominator), (0, 1))

    def test_great_numbers(self):
        great = 10 ** 29
        self.assertEqual(fraction(great, great * 3), (1, 3))
        self.assertEqual(fraction(-great, great - 1), (-great, great - 1))
        self.assertEqual(fraction(2 * great, -10), (-2 * 10 ** 28, 1))
        self.assertEqual(fraction(3 ** 60, 3 ** 58 * 2), (9, 2))

    def test_drawn_ones(self):
        draw = random.Random(1)
        for _ in range(300):
            greatest = draw.choice([5, 30, 10 ** 30])
            numerator, denominator = draw.randint(-greatest, greatest), draw.randint(1, greatest)
            for sign in [1, -1]:
                found = fraction(numerator, sign * denominator)
                self.assertIsInstance(found, tuple)
                self.assertEqual(found, told(Fraction(numerator, sign * denominator)))


class ReckoningTest(unittest.TestCase):
    def test_plus(self):
        self.assertEqual(plus((1, 2), (1, 3)), (5, 6))
        self.assertEqual(plus((1, 2), (1, 2)), (1, 1))
        self.assertEqual(plus((1, 2), (-1, 2)), (0, 1))
        self.assertEqual(plus((-3, 4), (1, 6)), (-7, 12))
        self.assertEqual(plus((0, 1), (-2, 7)), (-2, 7))

    def test_minus(self):
        self.assertEqual(minus((1, 2), (1, 3)), (1, 6))
        self.assertEqual(minus((1, 3), (1, 2)), (-1, 6))
        self.assertEqual(minus((1, 2), (1, 2)), (0, 1))
        self.assertEqual(minus((0, 1), (-2, 7)), (2, 7))
        self.assertEqual(minus((-1, 6), (1, 3)), (-1, 2))

    def test_times(self):
        self.assertEqual(times((2, 3), (3, 4)), (1, 2))
        self.assertEqual(times((-2, 3), (3, 2)), (-1, 1))
        self.assertEqual(times((-2, 3), (-5, 7)), (10, 21))
        self.assertEqual(times((0, 1), (-5, 7)), (0, 1))

    def test_over(self):
        self.assertEqual(over((2, 3), (4, 3)), (1, 2))
        self.assertEqual(over((2, 3), (-4, 3)), (-1, 2))
        self.assertEqual(over((-2, 3), (-1, 9)), (6, 1))
        self.assertEqual(over((0, 1), (-5, 7)), (0, 1))
        self.assertEqual(over((5, 1), (3, 1)), (5, 3))

    def test_is_less(self):
        for first, second in [((1, 3), (1, 2)), ((-1, 2), (-1, 3)), ((-1, 2), (0, 1)), ((0, 1), (1, 9)),
                              ((-5, 1), (1, 9)), ((333, 1000), (1, 3)), ((10 ** 29, 3), (10 ** 29 + 1, 3))]:
            self.assertIs(is_less(first, second), True)
            self.assertIs(is_less(second, first), False)
            self.assertIs(is_less(first, first), False)

    def test_drawn_ones(self):
        draw = random.Random(2)
        for _ in range(300):
            greatest = draw.choice([4, 20, 10 ** 30])
            first, second = drawn_fraction(draw, greatest), drawn_fraction(draw, greatest)
            one, other = told(first), told(second)
            self.assertEqual(plus(one, other), told(first + second))
            self.assertEqual(minus(one, other), told(first - second))
            self.assertEqual(times(one, other), told(first * second))
            self.assertIs(is_less(one, other), first < second)
            if second != 0:
                self.assertEqual(over(one, other), told(first / second))


class SolveTest(unittest.TestCase):
    def test_one_unknown(self):
        self.assertEqual(solve([[(2, 1), (6, 1)]]), [(3, 1)])
        self.assertEqual(solve([[(-2, 3), (1, 2)]]), [(-3, 4)])
        self.assertEqual(solve([[(5, 1), (0, 1)]]), [(0, 1)])
        self.assertIsNone(solve([[(0, 1), (0, 1)]]))
        self.assertIsNone(solve([[(0, 1), (1, 1)]]))

    def test_no_unknown(self):
        self.assertEqual(solve([]), [])

    def test_one_solution(self):
        self.assertEqual(solve(wholes([[1, 1, 3], [1, -1, 1]])), [(2, 1), (1, 1)])
        self.assertEqual(solve(wholes([[2, 1, 1], [1, 3, 0]])), [(3, 5), (-1, 5)])
        self.assertEqual(solve(wholes([[1, 2, 3, 14], [0, 1, 4, 14], [5, 6, 0, 17]])), [(1, 1), (2, 1), (3, 1)])
        rows = [[(1, 2), (1, 3), (1, 1)], [(-1, 4), (2, 5), (0, 1)]]
        self.assertEqual(solve(rows), [(24, 17), (15, 17)])

    def test_a_first_row_that_begins_with_0(self):
        self.assertEqual(solve(wholes([[0, 1, 5], [1, 0, 7]])), [(7, 1), (5, 1)])
        self.assertEqual(solve(wholes([[0, 2, 1, 4], [1, 1, 0, 3], [0, 0, 3, 6]])), [(2, 1), (1, 1), (2, 1)])
        self.assertEqual(solve(wholes([[0, 0, 1, 3], [0, 1, 0, 2], [1, 0, 0, 1]])), [(1, 1), (2, 1), (3, 1)])

    def test_a_0_that_comes_only_while_solving(self):
        self.assertEqual(solve(wholes([[1, 1, 1, 6], [1, 1, 2, 9], [1, 2, 1, 8]])), [(1, 1), (2, 1), (3, 1)])

    def test_no_solution(self):
        self.assertIsNone(solve(wholes([[1, 1, 1], [1, 1, 2]])))
        self.assertIsNone(solve(wholes([[1, 1, 1], [2, 2, 3]])))
        self.assertIsNone(solve(wholes([[0, 0, 1], [0, 1, 1]])))
        self.assertIsNone(solve(wholes([[1, 2, 3, 1], [4, 5, 6, 1], [7, 8, 9, 5]])))

    def test_many_solutions(self):
        self.assertIsNone(solve(wholes([[1, 1, 1], [1, 1, 1]])))
        self.assertIsNone(solve(wholes([[1, 1, 1], [-2, -2, -2]])))
        self.assertIsNone(solve(wholes([[1, 0, 1], [0, 0, 0]])))
        self.assertIsNone(solve(wholes([[0, 1, 1], [0, 2, 2]])))
        self.assertIsNone(solve(wholes([[1, 2, 3, 1], [4, 5, 6, 1], [5, 7, 9, 2]])))
        self.assertIsNone(solve(wholes([[0, 0, 0], [0, 0, 0]])))

    def test_great_numbers(self):
        great = 10 ** 29
        self.assertEqual(solve([[(great, 1), (1, 1), (1, 1)], [(1, 1), (1, great), (0, 1)]]), None)
        rows = [[(great, 1), (1, 1), (great + 2, 1)], [(1, great), (-1, 1), (1 - 2 * great, great)]]
        self.assertEqual(solve(rows), [(1, 1), (2, 1)])

    def test_drawn_equations(self):
        draw = random.Random(3)
        none = 0
        for _ in range(300):
            many = draw.randint(1, 5)
            rows = [[drawn_fraction(draw, 4) for _ in range(many + 1)] for _ in range(many)]
            if draw.random() < 0.3:
                share = drawn_fraction(draw, 3)
                rows[-1] = [share * number for number in rows[0]]
            if draw.random() < 0.5:
                rows = [[number if draw.random() < 0.6 else Fraction(0) for number in row] for row in rows]
            found = solve([[told(number) for number in row] for row in rows])
            if rank([row[:-1] for row in rows]) < many:
                self.assertIsNone(found)
                none += 1
                continue
            self.assertEqual(len(found), many)
            solution = [Fraction(*pair) for pair in found]
            self.assertEqual(found, [told(number) for number in solution])
            for row in rows:
                self.assertEqual(sum([factor * number for factor, number in zip(row, solution)]), row[-1])
        self.assertGreater(none, 50)

    def test_many_unknowns(self):
        draw = random.Random(4)
        solution = [drawn_fraction(draw, 9) for _ in range(40)]
        rows = []
        for _ in solution:
            factors = [drawn_fraction(draw, 9) for _ in solution]
            right = sum([factor * number for factor, number in zip(factors, solution)])
            rows.append([told(number) for number in factors + [right]])
        self.assertEqual(solve(rows), [told(number) for number in solution])

    def test_lists_stay_as_they_are(self):
        for rows in [wholes([[0, 1, 5], [2, 0, 7]]), wholes([[1, 1, 1], [1, 1, 2]]), wholes([[3, 1, 1], [6, 1, 2]]),
                     [[(1, 2), (1, 3)]]]:
            before = copy.deepcopy(rows)
            solve(rows)
            self.assertEqual(rows, before)


if __name__ == "__main__":
    unittest.main()

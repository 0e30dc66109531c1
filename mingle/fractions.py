"""Exact fractions, which are pairs of a numerator and a denominator, and linear equations with them."""

from math import gcd, lcm


def fraction(numerator, denominator):
    """The pair in lowest terms with a positive denominator."""
    shared = gcd(numerator, denominator)
    if denominator < 0:
        shared = -shared
    return (numerator // shared, denominator // shared)


def plus(first, second):
    """The sum of two fractions."""
    return fraction(first[0] * second[1] + second[0] * first[1], first[1] * second[1])


def minus(first, second):
    """The first fraction less the second one."""
    return fraction(first[0] * second[1] - second[0] * first[1], first[1] * second[1])


def times(first, second):
    """The product of two fractions."""
    return fraction(first[0] * second[0], first[1] * second[1])


def over(first, second):
    """The first fraction divided by the second one, which is not 0."""
    return fraction(first[0] * second[1], first[1] * second[0])


def is_less(first, second):
    """True if the first fraction is less than the second one."""
    return first[0] * second[1] < second[0] * first[1]


def _lowered(row):
    """The row of integers, divided by the greatest integer that divides them all."""
    shared = 0
    for number in row:
        shared = gcd(shared, number)
        if shared == 1:
            return row
    return [number // shared for number in row] if shared else row


def _whole(row):
    """The row of fractions, multiplied so that it has integers only."""
    shared = 1
    for _, denominator in row:
        shared = lcm(shared, denominator)
    return _lowered([numerator * (shared // denominator) for numerator, denominator in row])


def _without(row, pivot, column):
    """The row, with a multiple of the pivot row taken away so that the column becomes 0."""
    if row[column] == 0:
        return row
    shared = gcd(row[column], pivot[column])
    keep = pivot[column] // shared
    take = row[column] // shared
    return _lowered([keep * here - take * there for here, there in zip(row, pivot)])


def _pivot_at(rows, column):
    """The index of the first row whose number in the column is not 0, or None."""
    for index, row in enumerate(rows):
        if row[column] != 0:
            return index
    return None


def _stairs(rows):
    """Rows of integers with the same solutions, of which the row k has only 0 before column k.

    None if some row would have 0 there, too.
    """
    waiting = [_whole(row) for row in rows]
    found = []
    for column in range(len(rows)):
        index = _pivot_at(waiting, column)
        if index is None:
            return None
        pivot = waiting.pop(index)
        found.append(pivot)
        waiting = [_without(row, pivot, column) for row in waiting]
    return found


def solve(rows):
    """The list of the fractions that solve the equations, or None if there is not exactly one solution.

    Each row has the factors of the unknowns and then the right side.
    """
    stairs = _stairs(rows)
    if stairs is None:
        return None
    solution = [None] * len(rows)
    for column in reversed(range(len(rows))):
        row = stairs[column]
        left = (row[-1], 1)
        for behind in range(column + 1, len(rows)):
            if row[behind] != 0:
                left = minus(left, times((row[behind], 1), solution[behind]))
        solution[column] = over(left, (row[column], 1))
    return solution

"""Another way to decide formulas at single values of t: by trying all numbers that could do.

It works with Fractions and with Surds, whose values are known exactly, so t can be irrational.
"""

import functools
from fractions import Fraction

from helpers import value
from wheretrue.cells import root_of, sample_of
from wheretrue.roots import compare_root, rational_roots

COMPARED = {
    "<": lambda x: x < 0, "<=": lambda x: x <= 0, "=": lambda x: x == 0,
    "!=": lambda x: x != 0, ">=": lambda x: x >= 0, ">": lambda x: x > 0,
}


@functools.total_ordering
class Surd:
    """The number a plus b times the square root of d, a whole number that is no square."""

    def __init__(self, a, b, d):
        # So that equal numbers with short ones have the same root.
        for k in range(2, 20):
            while d % (k * k) == 0:
                d //= k * k
                b *= k
        self.a = Fraction(a)
        self.b = Fraction(b)
        self.d = d

    def _other(self, other):
        if not isinstance(other, Surd):
            return Surd(other, 0, self.d)
        if other.d != self.d:
            raise ValueError("the numbers have different roots")
        return other

    def __add__(self, other):
        other = self._other(other)
        return Surd(self.a + other.a, self.b + other.b, self.d)

    __radd__ = __add__

    def __mul__(self, other):
        other = self._other(other)
        return Surd(self.a * other.a + self.d * self.b * other.b, self.a * other.b + self.b * other.a, self.d)

    __rmul__ = __mul__

    def __neg__(self):
        return self * -1

    def __sub__(self, other):
        return self + -self._other(other)

    def __rsub__(self, other):
        return self._other(other) - self

    def __truediv__(self, other):
        other = self._other(other)
        norm = other.a ** 2 - self.d * other.b ** 2
        return self * Surd(other.a / norm, -other.b / norm, self.d)

    def __rtruediv__(self, other):
        return self._other(other) / self

    def sign(self):
        if self.a >= 0 and self.b >= 0:
            return int(self.a > 0 or self.b > 0)
        if self.a <= 0 and self.b <= 0:
            return -1
        outweighed = self.a ** 2 < self.d * self.b ** 2
        return 1 if (self.b > 0) == outweighed else -1

    def __eq__(self, other):
        if other is None or isinstance(other, Surd) and other.d != self.d:
            return False
        return (self - other).sign() == 0

    def __lt__(self, other):
        return (self - other).sign() < 0

    def __repr__(self):
        return f"({self.a} + {self.b} * sqrt {self.d})"


def polynomial_value(polynomial, t):
    total = Fraction(0)
    for coefficient in reversed(polynomial):
        total = total * t + coefficient
    return total


def values_of(rows, t):
    """The rows with the values of their polynomials at t."""
    return [([polynomial_value(a, t) for a in coefficients], polynomial_value(constant, t), sign)
            for coefficients, constant, sign in rows]


def row_value(row, numbers):
    return sum([c * x for c, x in zip(row[0], numbers)], row[1])


def fulfilled(rows, numbers):
    return all(COMPARED[row[2]](row_value(row, numbers)) for row in rows)


def candidates(borders):
    """The borders, and numbers between and beside them."""
    borders = sorted(borders)
    if not borders:
        return [Fraction(0)]
    between = [(x + y) / 2 for x, y in zip(borders, borders[1:])]
    return [borders[0] - 1, *borders, *between, borders[-1] + 1]


def solution_of(many, rows):
    """Numbers that fulfill rows of values, or None: those at which something can change, and between these."""
    if many == 0:
        return [] if fulfilled(rows, []) else None
    borders = [-c / a[0] for a, c, _ in rows if a[0] != 0] if many == 1 else crossings(rows)
    for x in candidates(borders):
        rest = [(a[1:], a[0] * x + c, sign) for a, c, sign in rows]
        others = solution_of(many - 1, rest)
        if others is not None:
            return [x, *others]
    return None


def crossings(rows):
    """The first numbers of all points where the lines of two rows cross, and of lines that have one alone."""
    found = [-c / a for (a, b), c, _ in rows if b == 0 and a != 0]
    for k, ((a, b), c, _) in enumerate(rows):
        for (d, e), f, _ in rows[:k]:
            if a * e - b * d != 0:
                found.append((b * f - c * e) / (a * e - b * d))
    return found


def truth_of(formula, t):
    word = formula[0]
    if word == "sign":
        return COMPARED[formula[2]](polynomial_value(formula[1], t))
    if word == "some":
        return solution_of(formula[1], values_of(formula[2], t)) is not None
    if word == "not":
        return not truth_of(formula[1], t)
    parts = [truth_of(part, t) for part in formula[1:]]
    return all(parts) if word == "and" else any(parts)


def exact_point(division, cell):
    """A number in the cell of the division, a Fraction or a Surd, or None if the cell is a root of another kind."""
    if cell % 2 == 0:
        return value(sample_of(division, cell))
    place, k = root_of(division, cell)
    part = division[0][place]
    for x in rational_roots(part):
        if compare_root(part, k, x) == 0:
            return value(x)
    if len(part) != 3:
        return None
    square = part[1] ** 2 - 4 * part[0] * part[2]
    return Surd(Fraction(-part[1], 2 * part[2]), Fraction(2 * k - 1, 2 * part[2]), square)

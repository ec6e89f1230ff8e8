"""Polynomials made of factors whose real roots are known exactly, to hold the program's answers against.

A real number x is told by its key, a Fraction: x to the power 6, with the sign of x. Keys are ordered as the numbers
are, and those of square roots and cube roots of Fractions are Fractions.
"""

from fractions import Fraction

from helpers import product_by_powers


class Factor:
    """The polynomial d * t ** power - n, with the power 1, 2 or 3, times a whole number."""

    def __init__(self, power, n, d=1, factor=1):
        self.power = power
        self.border = Fraction(n, d)
        self.factor = factor
        self.polynomial = [-n * factor] + [0] * (power - 1) + [d * factor]

    def keys(self):
        """The keys of the real roots, ascending."""
        if self.power == 1:
            return [key(self.border)]
        if self.power == 3:
            return [self.border * abs(self.border)]
        if self.border <= 0:
            return [Fraction(0)] * (self.border == 0)
        return [-self.border ** 3, self.border ** 3]

    def sign_at(self, place):
        """The sign at the number with this key."""
        if self.power == 2:
            compared = sign(abs(place) - self.border ** 3) if self.border >= 0 else 1
        else:
            compared = sign(place - self.keys()[0])
        return compared * sign(self.polynomial[-1])


def key(x):
    return x ** 5 * abs(x)


def sign(x):
    return (x > 0) - (x < 0)


def line(n, d=1, factor=1):
    return Factor(1, n, d, factor)


def square(n, d=1, factor=1):
    return Factor(2, n, d, factor)


def cube(n, d=1, factor=1):
    return Factor(3, n, d, factor)


def polynomial_of(factors):
    found = [1]
    for factor in factors:
        found = product_by_powers(found, factor.polynomial)
    return found


def keys_of(factors):
    """The keys of all real roots, ascending, each once."""
    return sorted({place for factor in factors for place in factor.keys()})


def sign_by(factors, place):
    """The sign that the product has at the number with this key."""
    found = 1
    for factor in factors:
        found *= factor.sign_at(place)
    return found


# Square-free products: rational and irrational roots, none, few and many of them, of both signs and with contents.
SQUARE_FREE = [
    [line(0)], [line(3)], [line(-7, 2)], [line(1, 3, -4)], [square(2)], [square(-1)], [square(1, 2, 3)], [cube(2)],
    [cube(-5, 3, -2)], [line(0), square(2)], [line(0, 1, -1), line(1), line(-1)], [line(1, 2), line(1, 3), line(1, 5)],
    [square(2), square(3)], [square(2), square(-2), line(1)], [square(2), line(7, 5), line(141, 100)],
    [cube(2), cube(3), cube(-4)], [square(5), cube(11), line(9, 4), line(-9, 4)], [square(-3), cube(1, 7), line(0)],
    [line(k) for k in range(-6, 7)], [line(k, 6) for k in range(-5, 6)], [square(k, 1, -1) for k in (2, 3, 5, 6, 7)],
    [line(10 ** 20), line(10 ** 20 + 1), line(1, 10 ** 20)], [square(10 ** 30 + 1), line(10 ** 15), line(-10 ** 15)],
    [line(k, 8) for k in range(-4, 5)] + [square(1, 3), cube(1, 9, -5)], [square(-1), square(-2, 3), square(-7, 1, -6)],
    [line(1, 10 ** 20), line(3, 10 ** 20), line(-7, 10 ** 20), square(2, 10 ** 40)],
    [square(1, 3 ** 51), cube(1, 2 ** 91)],
    [line(1), line(-1, 2), square(2, 1, -12), square(-5, 7), cube(3, 2)], [line(1, 2, -2), line(1, 4), line(3, 4)],
]

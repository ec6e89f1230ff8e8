"""Fractions: tuples (p, q) of polynomials in lowest terms, functions of t."""

from math import gcd

from wheretrue.lines import Line
from wheretrue.numbers import divided
from wheretrue.polynomials import (
    add, common_divisor, content, exact_quotient, multiply, scale, subtract, value_at,
)

# Longer lists of coefficients are no polynomials.
MOST_COEFFICIENTS = 400


def is_fraction(value):
    """True if the tuple of lists of whole numbers is a fraction."""
    if len(value) != 2 or not all([_is_polynomial(a) for a in value]):
        return False
    p, q = value
    if q == [] or q[-1] < 0 or gcd(content(p), content(q)) != 1:
        return False
    return len(common_divisor(p, q)) == 1


def _is_polynomial(a):
    return len(a) <= MOST_COEFFICIENTS and (a == [] or a[-1] != 0)


def fraction(p, q):
    """The fraction that p divided by q is; q is not 0."""
    divisor = common_divisor(p, q)
    return _without_content(exact_quotient(p, divisor), exact_quotient(q, divisor))


def _without_content(p, q):
    """The fraction of two polynomials that no polynomial of a degree greater than 0 divides both."""
    divisor = gcd(content(p), content(q))
    if q[-1] < 0:
        divisor = -divisor
    return ([c // divisor for c in p], [c // divisor for c in q])


def from_number(x):
    """The number x as a fraction."""
    n, d = x
    return ([n] if n != 0 else [], [d])


def sum_of(f, g):
    """The sum of two fractions."""
    return fraction(add(multiply(f[0], g[1]), multiply(g[0], f[1])), multiply(f[1], g[1]))


def difference_of(f, g):
    """The difference of two fractions."""
    return fraction(subtract(multiply(f[0], g[1]), multiply(g[0], f[1])), multiply(f[1], g[1]))


def product_of(f, g):
    """The product of two fractions."""
    return fraction(multiply(f[0], g[0]), multiply(f[1], g[1]))


def quotient_of(f, g):
    """The quotient of two fractions, the second of which is not 0."""
    return fraction(multiply(f[0], g[1]), multiply(f[1], g[0]))


def value_of(f, x):
    """The value at the number x, or None if x is a pole."""
    below = value_at(f[1], x)
    if below == (0, 1):
        return None
    return divided(value_at(f[0], x), below)


def inserted(p, f):
    """The fraction that the polynomial p becomes with the fraction f for t."""
    top = p[-1:]
    below = [1]
    for coefficient in reversed(p[:-1]):
        below = multiply(below, f[1])
        top = add(multiply(top, f[0]), scale(below, coefficient))
    # What divides both would divide the two polynomials of f, too: only a whole number can.
    return _without_content(top, below)


def fraction_sign(f, division, *, cell):
    """The sign of the fraction on the cell of the division, or None if it has none there."""
    return sign_in(f, Line(division), cell)


def sign_in(f, line, cell):
    """The sign of the fraction on the cell of the line, or None if it has none there.

    Here the two polynomials may have divisors in common.
    """
    top = line.sign_in(cell, f[0])
    below = line.sign_in(cell, f[1])
    if top is None or below in (None, 0):
        return None
    return top * below

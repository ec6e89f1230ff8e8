"""Vectors: lists of three polynomials, read at each value of t.

The vector of a row of a block is made of its two coefficients and its constant. A vector (x, y, z) with z greater than
0 stands for the numbers x divided by z and y divided by z, and one with z = 0 for a direction. The product of both has
the sign that the sum of the row has with these numbers, or in this direction.
"""

from math import gcd

from wheretrue.polynomials import add, common_divisor, content, exact_quotient, multiply, scale, subtract


def vector_product(u, v):
    """The sum of the products of their polynomials."""
    found = []
    for a, b in zip(u, v):
        found = add(found, multiply(a, b))
    return found


def crossed(u, v):
    """The vector whose products with both are 0."""
    return [minor(u, v, 1, 2), minor(u, v, 2, 0), minor(u, v, 0, 1)]


def minor(u, v, i, j):
    """The determinant of two columns of two lines."""
    return subtract(multiply(u[i], v[j]), multiply(u[j], v[i]))


def sum_of_lists(lists):
    """The sums of the polynomials at each place of lists of the same length, of which there is at least one."""
    found = [list(a) for a in lists[0]]
    for one in lists[1:]:
        found = [add(a, b) for a, b in zip(found, one)]
    return found


def with_factors(factors, vectors):
    """The sum of the vectors, each times its factor, a polynomial."""
    return sum_of_lists([[multiply(factor, a) for a in vector] for factor, vector in zip(factors, vectors)])


def with_both_signs(polynomials):
    """The list of polynomials, not all 0, divided by all that divides each of them, with either sign."""
    divisor = []
    number = 0
    for a in polynomials:
        divisor = common_divisor(divisor, a)
        number = gcd(number, content(a))
    first = [[c // number for c in exact_quotient(a, divisor)] for a in polynomials]
    return [first, [scale(a, -1) for a in first]]

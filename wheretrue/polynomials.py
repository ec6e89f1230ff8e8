"""Polynomials: lists of whole numbers, the coefficients of the powers of t from the constant on.

The last coefficient is not 0, and the empty list is the polynomial 0.
"""

from itertools import zip_longest
from math import gcd

from wheretrue.errors import BadNumber, BadSize
from wheretrue.modular import PRIMES, divisor_modulo, joined, nearest, prime_below
from wheretrue.numbers import is_whole, number


def check_polynomial(polynomial, *, most, bound):
    """Raises the first error that is due: a degree over most, or a wrong coefficient."""
    if len(polynomial) > most + 1:
        raise BadSize()
    for coefficient in polynomial:
        if not is_whole(coefficient) or abs(coefficient) >= bound:
            raise BadNumber()
    if polynomial != [] and polynomial[-1] == 0:
        raise BadNumber()


def trimmed(coefficients):
    """The polynomial with these coefficients, without the zeros at the end."""
    size = len(coefficients)
    while size > 0 and coefficients[size - 1] == 0:
        size -= 1
    return coefficients[:size]


def add(a, b):
    """The sum of two polynomials."""
    return trimmed([c + e for c, e in zip_longest(a, b, fillvalue=0)])


def subtract(a, b):
    """The difference of two polynomials."""
    return trimmed([c - e for c, e in zip_longest(a, b, fillvalue=0)])


def multiply(a, b):
    """The product of two polynomials."""
    if a == [] or b == []:
        return []
    coefficients = [0] * (len(a) + len(b) - 1)
    for i, c in enumerate(a):
        for j, e in enumerate(b):
            coefficients[i + j] += c * e
    return coefficients


def scale(a, factor):
    """The polynomial times a whole number."""
    return trimmed([c * factor for c in a])


def derivative(a):
    """The derivative of a polynomial."""
    return [k * a[k] for k in range(1, len(a))]


def value_at(a, x):
    """The value of the polynomial at the number x."""
    power = 1
    for _ in a:
        power = power * x[1]
    # One division at the end is cheaper than lowest terms at each step.
    return number(scaled_value(a, x) * x[1], power)


def scaled_value(a, x):
    """The value at x, times the denominator of x to the power of the degree: a whole number with the sign of the value.

    x is a tuple (n, d) with d greater than 0, not always in lowest terms.
    """
    n, d = x
    top = 0
    power = 1
    for coefficient in reversed(a):
        top = top * n + coefficient * power
        power = power * d
    return top


def content(a):
    """The greatest whole number that divides all coefficients, 0 for the polynomial 0."""
    greatest = 0
    for coefficient in a:
        greatest = gcd(greatest, coefficient)
    return greatest


def plain(a):
    """The plain form: content 1 and a leading coefficient greater than 0, or the polynomial 0."""
    if a == []:
        return []
    divisor = content(a)
    if a[-1] < 0:
        divisor = -divisor
    return [c // divisor for c in a]


def false_rest(a, b):
    """The rest of a by b, after a is multiplied so often with b's leading coefficient that it is whole."""
    lead = b[-1]
    degree = len(b) - 1
    steps = len(a) - degree
    rest = list(a)
    for shift in reversed(range(steps)):
        top = rest[shift + degree]
        # Each step multiplies, also where top is 0: the factor depends on the degrees alone.
        rest = [lead * c for c in rest[:shift + degree]]
        for k in range(degree):
            rest[shift + k] -= top * b[k]
    return trimmed(rest)


def divides(a, b):
    """True if the polynomial a, which is not 0, divides b."""
    return false_rest(b, a) == []


def quotient(a, b):
    """The plain form of a divided by b, which divides it; neither is 0."""
    return exact_quotient(plain(a), plain(b))


def exact_quotient(a, b):
    """The quotient of a by the plain polynomial b, with whole coefficients, or None if b does not divide a."""
    lead = b[-1]
    degree = len(b) - 1
    rest = list(a)
    coefficients = []
    # The quotient of plain polynomials has whole coefficients, so each step is a division of whole numbers.
    while len(rest) > degree:
        factor, left = divmod(rest.pop(), lead)
        if left != 0:
            return None
        coefficients.append(factor)
        if factor != 0:
            shift = len(rest) - degree
            rest[shift:] = [c - factor * e for c, e in zip(rest[shift:], b)]
    return None if any(rest) else coefficients[::-1]


def common_divisor(a, b):
    """The greatest common divisor, a plain polynomial; 0 if both are 0."""
    first = plain(a)
    second = plain(b)
    if first == [] or second == []:
        return first + second
    prime = PRIMES[0]
    found = []
    modulus = 1
    while True:
        if first[-1] % prime != 0 and second[-1] % prime != 0:
            rests = _scaled_divisor(first, second, prime)
            if found == [] or len(rests) < len(found):
                # A divisor of a greater degree is one modulo the earlier primes alone.
                found = rests
                modulus = prime
            elif len(rests) == len(found):
                found = joined(found, modulus, rests, prime)
                modulus = modulus * prime
            candidate = plain(nearest(found, modulus))
            if _divides_both(candidate, first, second):
                return candidate
        prime = prime_below(prime)


def _scaled_divisor(a, b, prime):
    """The greatest common divisor modulo the prime, with a leading coefficient that does for whole numbers, too."""
    lead = gcd(a[-1], b[-1])
    return [c * lead % prime for c in divisor_modulo(a, b, prime)]


def _divides_both(candidate, a, b):
    return exact_quotient(a, candidate) is not None and exact_quotient(b, candidate) is not None


def square_free(a):
    """The plain square-free polynomial with the same roots as a, which is not 0."""
    return quotient(a, common_divisor(a, derivative(a)))


def product(polynomials):
    """The product of a list of polynomials."""
    found = [1]
    for polynomial in polynomials:
        found = multiply(found, polynomial)
    return found

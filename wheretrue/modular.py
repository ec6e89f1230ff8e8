"""Polynomials whose coefficients count only by the rests that a prime leaves of them.

A common divisor modulo a few primes is found with small numbers, and the common divisor itself is made of these.
"""

from math import isqrt

# The greatest primes below 2 to the power 30: products of two rests stay small for Python.
PRIMES = (
    1073741789, 1073741783, 1073741741, 1073741723, 1073741719, 1073741717, 1073741689, 1073741671,
    1073741663, 1073741651, 1073741621, 1073741567, 1073741561, 1073741527, 1073741503, 1073741477,
)


def prime_below(prime):
    """The greatest prime that is less than this one, which is one of the list or less than its last one."""
    if prime in PRIMES[:-1]:
        return PRIMES[PRIMES.index(prime) + 1]
    candidate = prime - 2
    while any(candidate % k == 0 for k in range(3, isqrt(candidate) + 1, 2)):
        candidate -= 2
    return candidate


def inverse(a, prime):
    """The whole number that, times a, leaves the rest 1; the prime does not divide a."""
    before, after = prime, a % prime
    factor, following = 0, 1
    while after != 0:
        times = before // after
        before, after = after, before - times * after
        factor, following = following, factor - times * following
    return factor % prime


def divisor_modulo(a, b, prime):
    """The greatest common divisor modulo the prime, with 1 as leading coefficient.

    The prime divides the leading coefficient of neither polynomial.
    """
    first = [c % prime for c in a]
    second = [c % prime for c in b]
    while second != []:
        first, second = second, _rest_modulo(first, second, prime)
    unit = inverse(first[-1], prime)
    return [c * unit % prime for c in first]


def _rest_modulo(a, b, prime):
    degree = len(b) - 1
    unit = inverse(b[-1], prime)
    rest = list(a)
    while len(rest) > degree:
        factor = rest.pop() * unit % prime
        if factor != 0:
            shift = len(rest) - degree
            rest[shift:] = [(c - factor * e) % prime for c, e in zip(rest[shift:], b)]
    while rest != [] and rest[-1] == 0:
        rest.pop()
    return rest


def joined(coefficients, modulus, rests, prime):
    """The coefficients below modulus times prime that leave these by the modulus and these rests by the prime."""
    unit = inverse(modulus, prime)
    return [c + modulus * ((rest - c) * unit % prime) for c, rest in zip(coefficients, rests)]


def nearest(coefficients, modulus):
    """The coefficients nearest to 0 that leave the same rests by the modulus."""
    return [c - modulus if 2 * c > modulus else c for c in coefficients]

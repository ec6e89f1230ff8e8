"""Stretches of the real line with one root each, found by halving and Descartes' rule of signs.

A span (low, high, scale) of whole numbers is the stretch from low to high, both divided by the scale, without its
ends, or, if low and high are equal, this one point. The scale is a power of 2.
"""

from itertools import accumulate


def isolated(p):
    """Spans of the real roots of the square-free polynomial p, ascending, with one root in each.

    Spans have no point in common, but the end of one can be the root of another one.
    """
    if p[0] == 0:
        rest = p[1:]
        return _below_zero(rest) + [(0, 0, 1)] + _above_zero(rest)
    return _below_zero(p) + _above_zero(p)


def sign_changes(coefficients):
    """How often the sign changes in a list of whole numbers, when those that are 0 are left out."""
    many = 0
    last = 0
    for c in coefficients:
        if c != 0:
            if last != 0 and (c > 0) != (last > 0):
                many += 1
            last = c
    return many


def _below_zero(p):
    mirrored = [c if k % 2 == 0 else -c for k, c in enumerate(p)]
    return [(-high, -low, scale) for low, high, scale in reversed(_above_zero(mirrored))]


def _above_zero(p):
    """Spans of the positive roots of p, whose constant is not 0."""
    exponent = _exponent(p)
    degree = len(p) - 1
    # At t times 2 to the power of the exponent instead of t, all positive roots are between 0 and 1.
    if exponent >= 0:
        narrow = [c << (exponent * k) for k, c in enumerate(p)]
    else:
        narrow = [c << (-exponent * (degree - k)) for k, c in enumerate(p)]
    return [_stretched(span, exponent) for span in _between_zero_and_one(narrow)]


def _exponent(p):
    """A whole number such that all roots of p are less than 2 to this power in absolute value."""
    lead = abs(p[-1]).bit_length()
    degree = len(p) - 1
    # Lagrange's bound is twice the greatest k-th root of the coefficient k places below, divided by the leading one.
    steps = [-((lead - 1 - abs(c).bit_length()) // (degree - k)) for k, c in enumerate(p[:-1]) if c != 0]
    return 1 + max(steps, default=0)


def _stretched(span, exponent):
    """The span times 2 to the power of the exponent."""
    low, high, scale = span
    if exponent >= 0:
        return (low << exponent, high << exponent, scale)
    return (low, high, scale << -exponent)


def _between_zero_and_one(p):
    """Spans of the roots of p between 0 and 1."""
    found = []
    # What waits stands with a polynomial whose roots between 0 and 1 are those of p between place and place + 1, both
    # divided by the scale. The polynomial 0 stands for a root at the place.
    waiting = [(p, 0, 1)]
    while waiting != []:
        polynomial, place, scale = waiting.pop()
        changes = sign_changes(_moved(polynomial[::-1]))
        if polynomial == []:
            found.append((place, place, scale))
        elif changes == 1:
            found.append((place, place + 1, scale))
        elif changes > 1:
            waiting.extend(_halves(polynomial, place, scale))
    return found


def _halves(polynomial, place, scale):
    """What waits instead of the stretch: its right half, its middle if that is a root, and last its left half."""
    degree = len(polynomial) - 1
    left = [c << (degree - k) for k, c in enumerate(polynomial)]
    right = _moved(left)
    middle = 2 * place + 1
    if right[0] != 0:
        return [(right, middle, 2 * scale), (left, middle - 1, 2 * scale)]
    return [(right[1:], middle, 2 * scale), ([], middle, 2 * scale), (left, middle - 1, 2 * scale)]


def _moved(a):
    """The polynomial a at t + 1."""
    found = []
    row = a[::-1]
    while row != []:
        sums = list(accumulate(row))
        found.append(sums[-1])
        row = sums[:-1]
    return found

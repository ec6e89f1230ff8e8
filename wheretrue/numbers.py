"""Numbers: tuples (n, d) of two whole numbers in lowest terms with d at least 1."""

from math import gcd

SHORT_BOUND = 1000


def is_whole(value):
    """True if the value, which may be any, is a whole number."""
    return isinstance(value, int) and not isinstance(value, bool)


def is_number(value):
    """True if the value, which may be any, is a number."""
    if not isinstance(value, tuple) or len(value) != 2:
        return False
    n, d = value
    return is_whole(n) and is_whole(d) and d >= 1 and gcd(n, d) == 1


def is_short(value):
    """True if the value, which may be any, is a short number."""
    if not is_number(value):
        return False
    n, d = value
    return abs(n) < SHORT_BOUND and d < SHORT_BOUND


def number(n, d):
    """The number that n divided by d is; d is not 0."""
    divisor = gcd(n, d)
    if d < 0:
        divisor = -divisor
    return (n // divisor, d // divisor)


def compare(a, b):
    """-1, 0 or 1: the number a is less than b, equal to it, or greater."""
    left = a[0] * b[1]
    right = b[0] * a[1]
    if left == right:
        return 0
    return -1 if left < right else 1


def plus(a, b):
    """The sum of two numbers."""
    return number(a[0] * b[1] + b[0] * a[1], a[1] * b[1])


def minus(a, b):
    """The difference of two numbers."""
    return number(a[0] * b[1] - b[0] * a[1], a[1] * b[1])


def times(a, b):
    """The product of two numbers."""
    return number(a[0] * b[0], a[1] * b[1])


def divided(a, b):
    """The quotient of two numbers, the second of which is not 0."""
    return number(a[0] * b[1], a[1] * b[0])


def total(numbers):
    """The sum of a list of numbers."""
    found = (0, 1)
    for one in numbers:
        found = plus(found, one)
    return found

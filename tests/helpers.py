"""What several tests need: other ways to find what the program should return, and checks for new lists."""

import copy
from fractions import Fraction


def value(number):
    """The Fraction that a number (n, d) stands for."""
    return Fraction(number[0], number[1])


def as_number(fraction):
    return (fraction.numerator, fraction.denominator)


def cut(coefficients):
    """The coefficients without the zeros at the end."""
    found = list(coefficients)
    while found and found[-1] == 0:
        found.pop()
    return found


def sum_by_powers(a, b):
    found = [0] * max(len(a), len(b))
    for polynomial in (a, b):
        for power, coefficient in enumerate(polynomial):
            found[power] += coefficient
    return cut(found)


def product_by_powers(a, b):
    found = {}
    for i, c in enumerate(a):
        for j, e in enumerate(b):
            found[i + j] = found.get(i + j, 0) + c * e
    return cut([found[power] for power in sorted(found)])


def divided_by_powers(a, b):
    """Quotient and rest of division with rational coefficients."""
    rest = cut([Fraction(c) for c in a])
    found = [Fraction(0)] * max(0, len(rest) - len(b) + 1)
    while len(rest) >= len(b):
        shift = len(rest) - len(b)
        found[shift] = rest[-1] / b[-1]
        rest = cut([c - found[shift] * (b[k - shift] if k >= shift else 0) for k, c in enumerate(rest)])
    return found, rest


def made_plain(coefficients):
    """The plain polynomial among the rational multiples."""
    found = cut([Fraction(c) for c in coefficients])
    if not found:
        return []
    found = [c / found[-1] for c in found]
    many = 1
    # The least multiple with whole coefficients of a polynomial with the leading coefficient 1 is plain.
    for c in found:
        many = many * (c * many).denominator
    return [int(c * many) for c in found]


def divisor_by_powers(a, b):
    first, second = cut(a), cut(b)
    while second:
        first, second = second, divided_by_powers(first, second)[1]
    return made_plain(first)


def lists_in(thing):
    """All lists in it, also those within tuples and lists."""
    found = [thing] if isinstance(thing, list) else []
    if isinstance(thing, (list, tuple)):
        for inner in thing:
            found.extend(lists_in(inner))
    return found


def check_new(test, function, *arguments, **more):
    """Checks that the call changes no argument, and that each list it returns is a list of its own."""
    before = copy.deepcopy((arguments, more))
    returned = function(*arguments, **more)
    test.assertEqual((arguments, more), before)
    expected = copy.deepcopy(returned)
    places = [id(one) for one in lists_in(returned)]
    test.assertEqual(len(places), len(set(places)))
    for one in lists_in(returned):
        one.append("changed")
    test.assertEqual((arguments, more), before)
    test.assertEqual(function(*arguments, **more), expected)

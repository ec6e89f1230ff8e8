import itertools
import random
import unittest
from fractions import Fraction
from math import gcd, isqrt

from helpers import as_number, check_new, cut, divided_by_powers
from known import SQUARE_FREE, cube, key, keys_of, line, polynomial_of, sign, sign_by, square
from wheretrue.roots import (
    are_intervals, bound_of, chain_of, compare_root, count_between, count_roots, floor_of, intervals_of, sign_at,
    sign_at_root, variations, variations_far,
)

# Numbers at which, and next to which, roots of the known polynomials lie, and others.
PLACES = sorted(
    {Fraction(n, d) for n in range(-13, 14) for d in (1, 2, 3, 5, 8)}
    | {Fraction(n, 10 ** 20) for n in (-1, 0, 1, 2)} | {Fraction(10 ** 20 + n, 2) for n in range(-2, 5)}
    | {Fraction(141, 100), Fraction(7, 5), Fraction(-10 ** 15), Fraction(10 ** 15), Fraction(10 ** 16)}
)


def value_by_powers(a, x):
    return sum([c * x ** power for power, c in enumerate(a)])


def made_content_one(coefficients):
    """The whole coefficients with content 1 that are these times a number greater than 0."""
    many = 1
    for c in coefficients:
        many = many * (c * many).denominator
    whole = [int(c * many) for c in coefficients]
    return [c // gcd(*whole) for c in whole]


def chain_by_powers(p):
    """The chain, with division of rational coefficients: each further polynomial is a rest with the other sign."""
    chain = [p, [c * power for power, c in enumerate(p)][1:]]
    while True:
        _, rest = divided_by_powers(chain[-2], chain[-1])
        if not rest:
            return [made_content_one([Fraction(c) for c in a]) for a in chain]
        chain.append([-c for c in rest])


def changes(signs):
    left = [one for one in signs if one]
    return sum([one != other for one, other in zip(left, left[1:])])


class SignAtTest(unittest.TestCase):
    def test_signs(self):
        for a, x, expected in [
            ([], (0, 1), 0), ([], (5, 3), 0), ([3], (0, 1), 1), ([-3], (1, 2), -1), ([0, 1], (0, 1), 0),
            ([0, 1], (-1, 9), -1), ([-2, 0, 1], (7, 5), -1), ([-2, 0, 1], (17, 12), 1), ([-2, 0, 1], (-17, 12), 1),
            ([2, -4, -1, 2], (1, 2), 0), ([-10 ** 40, 10 ** 20], (10 ** 20, 1), 0),
            ([-10 ** 40, 10 ** 20], (10 ** 40 + 1, 10 ** 20), 1), ([1, 0, -4], (-1, 2), 0),
        ]:
            self.assertEqual(sign_at(a, x), expected, (a, x))
            check_new(self, sign_at, a, x)

    def test_against_powers(self):
        source = random.Random(17)
        for _ in range(500):
            a = cut([source.randint(-20, 20) for _ in range(source.randint(0, 7))])
            x = Fraction(source.randint(-30, 30), source.randint(1, 9))
            self.assertEqual(sign_at(a, as_number(x)), sign(value_by_powers(a, x)))

    def test_known_polynomials(self):
        for factors in SQUARE_FREE:
            for x in PLACES:
                self.assertEqual(sign_at(polynomial_of(factors), as_number(x)), sign_by(factors, key(x)))


class ChainTest(unittest.TestCase):
    def test_worked_out(self):
        for p, chain in [
            ([-2, 0, 1], [[-2, 0, 1], [0, 1], [1]]),
            ([-4, 0, 2], [[-2, 0, 1], [0, 1], [1]]),
            ([4, 0, -2], [[2, 0, -1], [0, -1], [-1]]),
            ([1, 0, 1], [[1, 0, 1], [0, 1], [-1]]),
            ([-7, 3], [[-7, 3], [1]]),
            ([14, -6], [[7, -3], [-1]]),
            ([0, 5], [[0, 1], [1]]),
            # The degree falls by two.
            ([2, 0, 0, 1], [[2, 0, 0, 1], [0, 0, 1], [-1]]),
            ([2, 0, 0, -1], [[2, 0, 0, -1], [0, 0, -1], [-1]]),
            ([0, -1, 0, 1], [[0, -1, 0, 1], [-1, 0, 3], [0, 1], [1]]),
            ([1, 1, 0, 1], [[1, 1, 0, 1], [1, 0, 3], [-3, -2], [-1]]),
        ]:
            self.assertEqual(chain_of(p), chain, p)

    def test_against_division_with_rational_coefficients(self):
        for factors in SQUARE_FREE:
            p = polynomial_of(factors)
            self.assertEqual(chain_of(p), chain_by_powers(p), p)
            check_new(self, chain_of, p)
        source = random.Random(18)
        for _ in range(300):
            p = [source.randint(-9, 9) for _ in range(source.randint(1, 8))] + [source.choice([-6, -2, -1, 1, 3, 4])]
            chain = chain_by_powers(p)
            if len(chain[-1]) == 1:
                self.assertEqual(chain_of(p), chain, p)

    def test_degrees_that_fall_by_more_than_one(self):
        for degree in range(3, 12):
            for power in range(1, degree):
                for low, middle, high in itertools.product((1, -2), (3, -1), (1, -4)):
                    p = [low] + [0] * (power - 1) + [middle] + [0] * (degree - power - 1) + [high]
                    chain = chain_by_powers(p)
                    if len(chain[-1]) == 1:
                        self.assertEqual(chain_of(p), chain, p)

    def test_variations(self):
        chain = [[-2, 0, 1], [0, 1], [1]]
        for x, many in [((-2, 1), 2), ((-1, 1), 1), ((0, 1), 1), ((1, 1), 1), ((2, 1), 0), ((-3, 2), 2), ((3, 2), 0)]:
            self.assertEqual(variations(chain, x), many, x)
        # At a root the first value is left out, and so are values that are 0 in the middle.
        self.assertEqual(variations([[0, 1], [1]], (0, 1)), 0)
        self.assertEqual(variations([[1], [0, 1], [-1]], (0, 1)), 1)
        self.assertEqual(variations([[1], [0, 1], [1]], (0, 1)), 0)
        self.assertEqual(variations([[1], [-1, 1], [1]], (0, 1)), 2)
        self.assertEqual(variations_far(chain, right=True), 0)
        self.assertEqual(variations_far(chain, right=False), 2)
        self.assertEqual(variations_far([[2, 0, -1], [0, -1], [-1]], right=True), 0)
        self.assertEqual(variations_far([[2, 0, -1], [0, -1], [-1]], right=False), 2)
        self.assertEqual(variations_far([[1, 0, 1], [0, 1], [-1]], right=True), 1)
        self.assertEqual(variations_far([[1, 0, 1], [0, 1], [-1]], right=False), 1)
        check_new(self, variations, chain, (1, 1))
        check_new(self, variations_far, chain, right=True)

    def test_variations_of_known_polynomials(self):
        for factors in SQUARE_FREE:
            chain = chain_of(polynomial_of(factors))
            far_left = variations_far(chain, right=False)
            for x in PLACES:
                values = [value_by_powers(a, x) for a in chain]
                self.assertEqual(variations(chain, as_number(x)), changes([sign(one) for one in values]))
                # Also the roots up to x are those of the difference.
                below = len([one for one in keys_of(factors) if one <= key(x)])
                self.assertEqual(far_left - variations(chain, as_number(x)), below)
            self.assertEqual(far_left - variations_far(chain, right=True), len(keys_of(factors)))
            far = 10 ** 30
            self.assertEqual(variations_far(chain, right=True), variations(chain, (far, 1)))
            self.assertEqual(far_left, variations(chain, (-far, 1)))


class CountTest(unittest.TestCase):
    def test_worked_out(self):
        for p, x, y, many in [
            ([-2, 0, 1], (-2, 1), (2, 1), 2), ([-2, 0, 1], (0, 1), (2, 1), 1), ([-2, 0, 1], (0, 1), (1, 1), 0),
            ([-2, 0, 1], (141, 100), (142, 100), 1), ([-2, 0, 1], (142, 100), (143, 100), 0),
            ([-2, 0, 1], (140, 100), (141, 100), 0), ([1, 0, 1], (-9, 1), (9, 1), 0), ([-1, 1], (0, 1), (1, 1), 1),
            ([-1, 1], (1, 1), (2, 1), 0), ([2, -2], (1, 2), (3, 2), 1), ([0, -1, 0, 1], (-1, 1), (1, 1), 2),
            ([0, -1, 0, 1], (-1, 1), (0, 1), 1), ([0, 3, 0, -3], (-2, 1), (1, 1), 3), ([-1, 3], (1, 4), (1, 3), 1),
            ([-1, 3], (1, 3), (1, 2), 0), ([-1, 3], (0, 1), (33, 100), 0),
        ]:
            self.assertEqual(count_between(p, x, y), many, (p, x, y))
            check_new(self, count_between, p, x, y)

    def test_known_polynomials(self):
        for factors in SQUARE_FREE:
            p = polynomial_of(factors)
            places = keys_of(factors)
            for x, y in list(zip(PLACES, PLACES[1:])) + list(zip(PLACES, PLACES[40:])):
                expected = len([one for one in places if key(x) < one <= key(y)])
                self.assertEqual(count_between(p, as_number(x), as_number(y)), expected, (p, x, y))
            self.assertEqual(count_roots(p), len(places))
            check_new(self, count_roots, p)

    def test_against_chains(self):
        source = random.Random(19)
        seen = {}
        for _ in range(400):
            p = [source.randint(-30, 30) for _ in range(source.randint(1, 9))] + [source.choice([-5, -1, 1, 2, 7])]
            chain = chain_by_powers(p)
            if len(chain[-1]) > 1:
                continue
            far = Fraction(10 ** 9)
            values = [[sign(value_by_powers(a, x)) for a in chain] for x in (-far, Fraction(0), Fraction(1, 2), far)]
            many = [changes(one) for one in values]
            self.assertEqual(count_roots(p), many[0] - many[3])
            self.assertEqual(count_between(p, (-10 ** 9, 1), (0, 1)), many[0] - many[1])
            self.assertEqual(count_between(p, (0, 1), (1, 2)), many[1] - many[2])
            seen[count_roots(p)] = True
        self.assertGreaterEqual(sorted(seen), [0, 1, 2, 3, 4])

    def test_great_degrees(self):
        self.assertEqual(count_roots([-1] + [0] * 39 + [1]), 2)
        self.assertEqual(count_roots([-1] + [0] * 38 + [1]), 1)
        self.assertEqual(count_roots([1] + [0] * 39 + [1]), 0)
        many = polynomial_of([line(k) for k in range(-20, 20)])
        self.assertEqual(count_roots(many), 40)
        self.assertEqual(count_between(many, (-20, 1), (19, 1)), 39)
        # Two roots near 10 ** -6, close together, and a polynomial with the same signs that has none there.
        close = [-2, 4 * 10 ** 6, -2 * 10 ** 12] + [0] * 9 + [1]
        self.assertEqual(count_between(close, (0, 1), (1, 10 ** 5)), 2)
        self.assertEqual(count_between([-3] + close[1:], (0, 1), (1, 10 ** 5)), 0)


class BoundTest(unittest.TestCase):
    def test_worked_out(self):
        for p, bound in [
            ([-7, 1], 8), ([7, 1], 8), ([0, 1], 1), ([0, 5], 1), ([7, 2], 5), ([-7, 2], 5), ([7, -2], 5), ([8, 2], 5),
            ([9, 2], 6), ([1, 2], 2), ([1, 100], 2), ([100, 100], 2), ([101, 100], 3), ([-2, 0, 1], 3),
            ([0, 0, 0, 4], 1), ([1, -12, 5, 4], 4), ([1, -13, 5, 4], 5), ([1, -16, 5, -4], 5), ([-16, 3, 5, -4], 5),
            ([-17, 3, 5, -4], 6), ([2, 3, 17, 4], 6), ([10 ** 40, 1, 10], 10 ** 39 + 1),
            ([10 ** 40 + 1, 1, 10], 10 ** 39 + 2),
        ]:
            self.assertEqual(bound_of(p), bound, p)
            check_new(self, bound_of, p)

    def test_powers(self):
        for n in (1, 2, 10, 999, 10 ** 25):
            self.assertEqual(bound_of([-n, 1]), n + 1)
            self.assertEqual(bound_of([n, 1]), n + 1)
            for degree in (2, 3, 7, 40):
                self.assertEqual(bound_of([-n] + [0] * (degree - 1) + [1]), n + 1)

    def test_roots_lie_between(self):
        for factors in SQUARE_FREE:
            bound = bound_of(polynomial_of(factors))
            for place in keys_of(factors):
                self.assertTrue(-key(bound) < place < key(bound))


class FloorTest(unittest.TestCase):
    def test_square_roots(self):
        for n in list(range(1, 40)) + [10 ** 6, 10 ** 6 + 1, 10 ** 40 - 1, 10 ** 40]:
            for grid in (1, 2, 3, 10, 1000, 12 ** 20):
                whole = isqrt(n * grid * grid)
                is_exact = whole * whole == n * grid * grid
                self.assertEqual(floor_of([-n, 0, 1], 1, grid=grid), whole)
                self.assertEqual(floor_of([-n, 0, 1], 0, grid=grid), -whole if is_exact else -whole - 1)
                self.assertEqual(floor_of([3 * n, 0, -3], 1, grid=grid), whole)

    def test_worked_out(self):
        for p, place, grid, floor in [
            ([-2, 0, 1], 1, 100, 141), ([-2, 0, 1], 0, 100, -142),
            ([-2, 0, 1], 1, 10 ** 30, 1414213562373095048801688724209),
            ([-2, 0, 1], 0, 10 ** 30, -1414213562373095048801688724210),
            ([-2, 0, 0, 1], 0, 10 ** 20, 125992104989487316476), ([2, 0, 0, 1], 0, 10 ** 20, -125992104989487316477),
            ([-3, 1], 0, 1, 3), ([-3, 1], 0, 7, 21), ([3, 1], 0, 7, -21), ([-1, 3], 0, 1, 0), ([-1, 3], 0, 2, 0),
            ([-1, 3], 0, 3, 1), ([-1, 3], 0, 10, 3), ([-1, 3], 0, 6, 2), ([1, 3], 0, 1, -1), ([1, 3], 0, 3, -1),
            ([1, 3], 0, 4, -2), ([1, 3], 0, 10, -4), ([0, 1], 0, 1, 0), ([0, 1], 0, 10 ** 50, 0),
            ([-1, 10 ** 9], 0, 10 ** 9, 1), ([-1, 10 ** 9], 0, 10 ** 9 - 1, 0), ([1, 10 ** 9], 0, 10 ** 9 - 1, -1),
            ([-1, 0, 1], 0, 5, -5), ([-1, 0, 1], 1, 5, 5), ([1, -3, 1], 0, 1000, 381), ([1, -3, 1], 1, 1000, 2618),
        ]:
            self.assertEqual(floor_of(p, place, grid=grid), floor, (p, place, grid))
            check_new(self, floor_of, p, place, grid=grid)

    def test_known_polynomials(self):
        for factors in SQUARE_FREE:
            p = polynomial_of(factors)
            for place, root in enumerate(keys_of(factors)):
                for grid in (1, 2, 5, 8, 30, 1000, 10 ** 25):
                    floor = floor_of(p, place, grid=grid)
                    low, high = key(Fraction(floor, grid)), key(Fraction(floor + 1, grid))
                    self.assertTrue(low <= root < high, (p, place, grid))

    def test_great_grids(self):
        grid = 10 ** 300
        self.assertEqual(floor_of([-5, 0, 1], 1, grid=grid), isqrt(5 * grid * grid))
        self.assertEqual(floor_of([-5, 0, 7], 0, grid=grid), -isqrt(5 * grid * grid // 7) - 1)
        self.assertEqual(floor_of([-2, 9], 0, grid=grid), 2 * grid // 9)
        # A root of t to the power 40 less 2, times 2 to the power 400.
        floor = floor_of([-2] + [0] * 39 + [1], 1, grid=2 ** 400)
        self.assertTrue(floor ** 40 <= 2 * 2 ** 16000 < (floor + 1) ** 40)


class CompareRootTest(unittest.TestCase):
    def test_worked_out(self):
        for p, place, x, compared in [
            ([-2, 0, 1], 1, (141, 100), 1), ([-2, 0, 1], 1, (142, 100), -1), ([-2, 0, 1], 0, (-141, 100), -1),
            ([-2, 0, 1], 0, (-142, 100), 1), ([-1, 3], 0, (1, 3), 0), ([1, -3], 0, (1, 3), 0),
            ([-1, 3], 0, (33, 100), 1), ([-1, 3], 0, (34, 100), -1), ([0, -1, 0, 1], 1, (0, 1), 0),
            ([0, -1, 0, 1], 0, (0, 1), -1), ([0, -1, 0, 1], 2, (0, 1), 1), ([0, -1, 0, 1], 0, (-1, 1), 0),
            ([0, -1, 0, 1], 2, (1, 1), 0), ([0, -1, 0, 1], 1, (1, 1), -1),
            ([-2, 0, 1], 1, (1414213562373095048801688724209, 10 ** 30), 1), ([-2, 0, 1], 1, (10 ** 99, 1), -1),
        ]:
            self.assertEqual(compare_root(p, place, x), compared, (p, place, x))
            check_new(self, compare_root, p, place, x)

    def test_known_polynomials(self):
        for factors in SQUARE_FREE:
            p = polynomial_of(factors)
            for place, root in enumerate(keys_of(factors)):
                for x in PLACES[::3]:
                    self.assertEqual(compare_root(p, place, as_number(x)), sign(root - key(x)), (p, place, x))


class SignAtRootTest(unittest.TestCase):
    def test_worked_out(self):
        for p, place, a, expected in [
            ([-2, 0, 1], 1, [], 0), ([-2, 0, 1], 1, [5], 1), ([-2, 0, 1], 0, [-5], -1), ([-2, 0, 1], 1, [-2, 0, 1], 0),
            ([-2, 0, 1], 0, [4, 0, -2], 0), ([-2, 0, 1], 1, [-7, 5], 1), ([-2, 0, 1], 1, [-17, 12], -1),
            ([-2, 0, 1], 0, [0, 1], -1), ([-2, 0, 1], 1, [-3, 0, 1], -1), ([-2, 0, 1], 1, [4, 0, -4, 0, 1], 0),
            ([-2, 0, 1], 1, [9, 0, -6, 0, 1], 1), ([-1, 3], 0, [-1, 3], 0), ([-1, 3], 0, [1, -3], 0),
            ([-1, 3], 0, [0, 1], 1), ([-1, 3], 0, [-1, 0, 9], 0), ([-1, 3], 0, [-1, 0, 8], -1),
            ([0, 1], 0, [0, 0, 1], 0), ([0, 1], 0, [-1, 1], -1), ([0, -2, 0, 1], 1, [0, 1], 0),
            ([0, -2, 0, 1], 0, [0, 1], -1), ([0, -2, 0, 1], 2, [0, 1], 1), ([0, -2, 0, 1], 2, [-2, 0, 1], 0),
            ([0, -2, 0, 1], 1, [-2, 0, 1], -1), ([-1, 0, 1], 1, [-10 ** 30, 10 ** 30 - 1], -1),
            ([2, 0, -1], 1, [-2, 0, 2], 1),
        ]:
            self.assertEqual(sign_at_root(p, place, a), expected, (p, place, a))
            check_new(self, sign_at_root, p, place, a)

    def test_known_polynomials(self):
        others = SQUARE_FREE + [[square(2), square(2), line(1, 2)], [line(0)] * 3 + [cube(2)] * 2, [line(1, 3)] * 2]
        for factors in SQUARE_FREE:
            p = polynomial_of(factors)
            for other in others:
                a = polynomial_of(other)
                for place, root in enumerate(keys_of(factors)):
                    self.assertEqual(sign_at_root(p, place, a), sign_by(other, root), (p, place, a))

    def test_next_to_a_root(self):
        n = 10 ** 40
        near = isqrt(2 * n * n)
        for numerator, expected in [(near, 1), (near + 1, -1)]:
            self.assertEqual(sign_at_root([-2, 0, 1], 1, [-numerator, n]), expected)
            self.assertEqual(sign_at_root([-numerator, n], 0, [-2, 0, 1]), -expected)
            self.assertEqual(sign_at_root([-2, 0, 1], 0, [numerator, n]), -expected)


class IntervalsTest(unittest.TestCase):
    WIDTHS = [Fraction(10 ** 30), Fraction(3), Fraction(1), Fraction(1, 10), Fraction(7, 1000), Fraction(1, 10 ** 30)]

    def check_intervals(self, factors, intervals, width):
        """Each interval has the root in its place, and no other one; all this by the known roots."""
        places = keys_of(factors)
        self.assertEqual(len(intervals), len(places))
        ends = []
        for place, (low, high) in zip(places, intervals):
            left, right = Fraction(*low), Fraction(*high)
            self.assertEqual((as_number(left), as_number(right)), (low, high))
            self.assertLessEqual(right - left, width)
            if left == right:
                self.assertEqual(key(left), place)
            else:
                self.assertTrue(key(left) < place < key(right))
                self.assertFalse({key(left), key(right)} & set(places))
            ends += [left, right]
        self.assertEqual(ends, sorted(ends))

    def test_known_polynomials(self):
        for factors in SQUARE_FREE:
            p = polynomial_of(factors)
            for width in self.WIDTHS:
                intervals = intervals_of(p, width=as_number(width))
                self.check_intervals(factors, intervals, width)
                self.assertIs(are_intervals(p, intervals, width=as_number(width)), True)
            check_new(self, intervals_of, p, width=(1, 3))

    def test_many_roots(self):
        for factors in [
            [line(k) for k in range(-20, 20)], [square(k * k + 1) for k in range(1, 21)], [line(k,
            41) for k in range(1, 41)],
        ]:
            p = polynomial_of(factors)
            intervals = intervals_of(p, width=(1, 10 ** 6))
            self.check_intervals(factors, intervals, Fraction(1, 10 ** 6))
            self.assertIs(are_intervals(p, intervals, width=(1, 10 ** 6)), True)
            self.assertIs(are_intervals(p, intervals[:-1], width=(1, 10 ** 6)), False)

    def check_are(self, expected, p, intervals, width=(1, 1)):
        self.assertIs(are_intervals(p, intervals, width=width), expected, (p, intervals))
        check_new(self, are_intervals, p, intervals, width=width)

    def test_right_lists(self):
        root = [-2, 0, 1]
        self.check_are(True, root, [((-3, 2), (-1, 1)), ((1, 1), (3, 2))])
        self.check_are(True, root, [((-3, 2), (-1, 1)), ((1, 1), (2, 1))])
        self.check_are(True, root, [((-2, 1), (0, 1)), ((0, 1), (2, 1))], (2, 1))
        self.check_are(True, [1, 0, 1], [])
        self.check_are(True, [-1, 1], [((1, 1), (1, 1))])
        self.check_are(True, [-1, 1], [((1, 2), (3, 2))])
        self.check_are(True, [-1, 3], [((1, 3), (1, 3))], (1, 10 ** 9))
        self.check_are(True, [-1, 3], [((0, 1), (1, 2))])
        mixed = [0, -2, 0, 1]
        self.check_are(True, mixed, [((-2, 1), (-1, 1)), ((0, 1), (0, 1)), ((1, 1), (2, 1))])
        self.check_are(True, mixed, [((-2, 1), (-1, 1)), ((-1, 1), (1, 1)), ((1, 1), (2, 1))], (2, 1))
        self.check_are(True, [0, -1, 1], [((0, 1), (0, 1)), ((1, 1), (1, 1))])
        self.check_are(True, [0, -1, 1], [((0, 1), (0, 1)), ((1, 10), (11, 10))])

    def test_one_is_lacking_or_too_much(self):
        root = [-2, 0, 1]
        left, right = ((-3, 2), (-1, 1)), ((1, 1), (3, 2))
        for intervals in [[], [left], [right], [left, left], [right, right], [left, right, right], [left, left, right]]:
            self.check_are(False, root, intervals)
        self.check_are(False, root, [left, ((0, 1), (1, 2)), right])
        self.check_are(False, root, [left, ((0, 1), (1, 1))])
        self.check_are(False, root, [((-1, 1), (0, 1)), right])
        self.check_are(False, [1, 0, 1], [((0, 1), (1, 1))])
        self.check_are(False, [1, 0, 1], [((0, 1), (0, 1))])
        self.check_are(False, [-1, 1], [((1, 1), (1, 1)), ((1, 1), (1, 1))])
        self.check_are(False, [0, -1, 1], [((0, 1), (0, 1)), ((0, 1), (0, 1))])
        self.check_are(False, [0, -1, 1], [((1, 1), (1, 1)), ((1, 1), (1, 1))])
        self.check_are(False, [0, -1, 1], [((1, 1), (1, 1))])

    def test_out_of_order(self):
        left, right = ((-3, 2), (-1, 1)), ((1, 1), (3, 2))
        self.check_are(False, [-2, 0, 1], [right, left])
        self.check_are(False, [-2, 0, 1], [left, right[::-1]])
        self.check_are(False, [-2, 0, 1], [left[::-1], right])
        self.check_are(False, [0, -1, 1], [((1, 1), (1, 1)), ((0, 1), (0, 1))])
        self.check_are(False, [-1, 1], [((3, 2), (1, 2))])

    def test_an_end_is_a_root(self):
        for wrong in [((1, 1), (2, 1)), ((0, 1), (1, 1)), ((-1, 1), (1, 1))]:
            self.check_are(False, [-1, 1], [wrong], (5, 1))
        # The other root stands at an end.
        self.check_are(False, [0, -1, 1], [((0, 1), (0, 1)), ((0, 1), (2, 1))], (5, 1))
        self.check_are(False, [0, -1, 1], [((-1, 1), (1, 1)), ((1, 1), (1, 1))], (5, 1))
        self.check_are(False, [0, -2, 0, 1], [((-2, 1), (0, 1)), ((0, 1), (0, 1)), ((1, 1), (2, 1))], (5, 1))
        self.check_are(False, [0, -2, 0, 1], [((-2, 1), (-1, 1)), ((0, 1), (0, 1)), ((0, 1), (2, 1))], (5, 1))

    def test_two_roots_in_one(self):
        self.check_are(False, [-2, 0, 1], [((-2, 1), (2, 1))], (5, 1))
        self.check_are(False, [-2, 0, 1], [((-2, 1), (2, 1)), ((1, 1), (2, 1))], (5, 1))
        self.check_are(False, [-2, 0, 1], [((-2, 1), (2, 1)), ((2, 1), (3, 1))], (5, 1))
        self.check_are(False, [-2, 0, 1], [((-2, 1), (-1, 1)), ((-2, 1), (2, 1))], (5, 1))
        self.check_are(False, [0, -1, 0, 1], [((-2, 1), (1, 2)), ((1, 2), (2, 1))], (5, 1))

    def test_overlapping(self):
        self.check_are(False, [-2, 0, 1], [((-2, 1), (1, 2)), ((0, 1), (2, 1))], (5, 1))
        self.check_are(False, [-2, 0, 1], [((-2, 1), (1, 10 ** 9)), ((0, 1), (2, 1))], (5, 1))
        self.check_are(False, [0, -1, 1], [((-1, 1), (1, 2)), ((1, 4), (3, 2))], (5, 1))

    def test_too_wide(self):
        intervals = [((-3, 2), (-1, 1)), ((1, 1), (3, 2))]
        self.check_are(True, [-2, 0, 1], intervals, (1, 2))
        self.check_are(False, [-2, 0, 1], intervals, (499, 1000))
        self.check_are(False, [-2, 0, 1], [((-2, 1), (-1, 1)), ((1, 1), (3, 2))], (1, 2))
        self.check_are(False, [-2, 0, 1], [((-3, 2), (-1, 1)), ((1, 1), (2, 1))], (1, 2))

    def test_rational_roots_as_points(self):
        self.check_are(False, [-2, 0, 1], [((-7, 5), (-7, 5)), ((7, 5), (7, 5))])
        self.check_are(False, [-1, 3], [((1, 2), (1, 2))])
        self.check_are(False, [0, -2, 0, 1], [((-2, 1), (-1, 1)), ((1, 10), (1, 10)), ((1, 1), (2, 1))])


if __name__ == "__main__":
    unittest.main()

import random
import unittest
from fractions import Fraction
from math import gcd

from helpers import (
    as_number, check_new, divided_by_powers, divisor_by_powers, product_by_powers, sum_by_powers, value,
)
from known import cube, keys_of, line, polynomial_of, sign_by, square
from making import Maker
from searching import polynomial_value
from wheretrue.cells import division_of
from wheretrue.fractions import (
    difference_of, fraction, fraction_sign, from_number, inserted, is_fraction, product_of, quotient_of, sum_of,
    value_of,
)

BIG = 10 ** 40
ZERO = ([], [1])
POINTS = [Fraction(n, d) for n in range(-4, 5) for d in (1, 2, 3)] + [Fraction(BIG, 7), Fraction(-3, BIG)]


def fraction_by_powers(p, q):
    """The fraction in lowest terms, by division with rational coefficients."""
    if not p:
        return ZERO
    divisor = divisor_by_powers(p, q)
    both = [divided_by_powers(a, divisor)[0] for a in (p, q)]
    many = 1
    for c in both[0] + both[1]:
        many = many * (c * many).denominator
    both = [[int(c * many) for c in a] for a in both]
    common = gcd(*both[0], *both[1]) * (1 if both[1][-1] > 0 else -1)
    return tuple([[c // common for c in a] for a in both])


def opposite(f):
    return ([-c for c in f[0]], list(f[1]))


def some_fractions(seed, many):
    """Fractions with and without common factors and poles, among them 0 and numbers."""
    maker = Maker(seed)
    pool = [[0, 1], [1, 1], [-2, 0, 1], [3, 2], [1, 0, 1], [-1, 0, 0, 2]]
    for _ in range(many):
        p = maker.polynomial(2, 6)
        q = maker.polynomial(1, 5) or [maker.source.choice([-6, -1, 1, 4])]
        for a in maker.source.sample(pool, maker.source.randint(0, 2)):
            p = product_by_powers(p, a)
        for a in maker.source.sample(pool, maker.source.randint(0, 2)):
            q = product_by_powers(q, a)
        yield fraction_by_powers(p, q)


class IsFractionTest(unittest.TestCase):
    def check_is(self, expected, value):
        self.assertIs(is_fraction(value), expected, value)
        check_new(self, is_fraction, value)

    def test_right(self):
        for f in (ZERO, ([1], [1]), ([-3], [2]), ([0, 1], [1]), ([1], [0, 1]), ([-1, -1], [2]), ([2], [4, 3]),
                  ([0, 2], [3, 0, 2]), ([4, 2], [3]), ([3], [4, 2]), ([-2, 0, 1], [0, -3, 0, 1]), ([BIG], [1, BIG]),
                  ([1, 0, 1], [1, 1]), ([6, 6], [10, 15])):
            self.check_is(True, f)

    def test_a_common_divisor(self):
        for p, q in [
            ([0, 1], [0, 1]), ([0, 1], [0, 0, 1]), ([-1, 0, 1], [1, 1]), ([-2, 0, 1], [0, -2, 0, 1]), ([], [0, 1]),
            ([1, 2, 1], [1, 1]), ([], [1, 1]), ([1, 0, 1], [2, 1, 2, 1]), ([2, 3, 1], [0, 1, 1]),
        ]:
            self.check_is(False, (p, q))

    def test_a_common_content(self):
        for p, q in (([2], [2]), ([2], [4, 6]), ([3, 6], [9]), ([], [2]), ([BIG], [0, BIG]), ([0, -2], [2, 2])):
            self.check_is(False, (p, q))

    def test_a_leading_coefficient_less_than_0(self):
        for p, q in (([1], [-1]), ([], [-1]), ([0, 1], [1, -1]), ([-1], [2, 0, -3])):
            self.check_is(False, (p, q))
        self.check_is(True, ([-1, -1], [-7, 1]))

    def test_a_denominator_0(self):
        for p in ([], [1], [0, 1]):
            self.check_is(False, (p, []))

    def test_zeros_at_the_end(self):
        for p, q in (([0], [1]), ([1, 0], [1]), ([1], [1, 0]), ([1], [0]), ([0, 1, 0, 0], [1]), ([1], [0, 1, 0]),
                     ([0], [0]), ([], [1, 0])):
            self.check_is(False, (p, q))

    def test_another_number_of_lists(self):
        for one in ((), ([1],), ([1], [1], [1]), ([], [], []), ([], [1], []), ([0, 1], [1], [2], [3])):
            self.check_is(False, one)

    def test_great_length(self):
        self.check_is(True, ([1], [1] + [0] * 398 + [1]))
        # Lists of more than 400 coefficients are no polynomials.
        self.check_is(False, ([1], [1] + [0] * 399 + [1]))
        self.check_is(False, ([1] + [0] * 399 + [1], [1]))
        self.check_is(False, ([1] * 400, [1] * 200))
        self.check_is(True, ([1] * 400, [1] * 399))

    def test_what_the_functions_return(self):
        for f in some_fractions(30, 200):
            self.assertIs(is_fraction(f), True)
            p, q = f
            self.assertIs(is_fraction((product_by_powers(p, [3]), product_by_powers(q, [3]))), False)
            self.assertIs(is_fraction((product_by_powers(p, [1, 3]), product_by_powers(q, [1, 3]))), False)
            self.assertIs(is_fraction((p, [-c for c in q])), False)


class FractionTest(unittest.TestCase):
    def check_fraction(self, p, q, expected):
        self.assertEqual(fraction(p, q), expected, (p, q))
        check_new(self, fraction, p, q)

    def test_worked_out(self):
        # The example of the document.
        self.check_fraction([-1, 0, 1], [2, -2], ([-1, -1], [2]))
        self.check_fraction([], [5], ZERO)
        self.check_fraction([], [0, -3, 7], ZERO)
        self.check_fraction([4], [6], ([2], [3]))
        self.check_fraction([4], [-6], ([-2], [3]))
        self.check_fraction([0, 2], [0, 4], ([1], [2]))
        self.check_fraction([0, 0, 6], [0, 4], ([0, 3], [2]))
        self.check_fraction([0, 4], [0, 0, -6], ([-2], [0, 3]))
        self.check_fraction([2, 4], [6], ([1, 2], [3]))
        self.check_fraction([-2, 0, 1], [4, 0, -4, 0, 1], ([1], [-2, 0, 1]))
        self.check_fraction([1, 0, 1], [1, 1], ([1, 0, 1], [1, 1]))
        self.check_fraction([2 * BIG, BIG], [3 * BIG], ([2, 1], [3]))
        self.check_fraction([1], [1], ([1], [1]))

    def test_at_random(self):
        maker = Maker(31)
        for _ in range(300):
            p, q, common = maker.polynomial(4, 7), maker.polynomial(4, 7), maker.polynomial(3, 7)
            if q and common:
                p, q = product_by_powers(p, common), product_by_powers(q, common)
                self.assertEqual(fraction(p, q), fraction_by_powers(p, q), (p, q))

    def test_degree_20(self):
        maker = Maker(32)
        for _ in range(5):
            p, q, common = [[maker.source.randint(-BIG, BIG) for _ in range(k)] + [BIG + 1] for k in (12, 10, 8)]
            expected = fraction_by_powers(p, q)
            self.assertEqual(fraction(product_by_powers(p, common), product_by_powers(q, common)), expected)


class FromNumberTest(unittest.TestCase):
    def test_worked_out(self):
        for x, expected in [((0, 1), ZERO), ((3, 1), ([3], [1])), ((-2, 3), ([-2], [3])), ((BIG, 7), ([BIG], [7]))]:
            self.assertEqual(from_number(x), expected)
            self.assertIs(is_fraction(from_number(x)), True)
            check_new(self, from_number, x)


class ArithmeticTest(unittest.TestCase):
    FUNCTIONS = [(sum_of, lambda x, y: x + y), (difference_of, lambda x, y: x - y), (product_of, lambda x, y: x * y),
                 (quotient_of, lambda x, y: x / y)]

    def check_both(self, function, f, g, expected):
        self.assertEqual(function(f, g), expected, (f, g))
        check_new(self, function, f, g)

    def test_with_0(self):
        f = ([1, 2], [0, 3])
        self.check_both(sum_of, f, ZERO, f)
        self.check_both(sum_of, ZERO, f, f)
        self.check_both(sum_of, ZERO, ZERO, ZERO)
        self.check_both(difference_of, f, ZERO, f)
        self.check_both(difference_of, ZERO, f, ([-1, -2], [0, 3]))
        self.check_both(product_of, f, ZERO, ZERO)
        self.check_both(product_of, ZERO, f, ZERO)
        self.check_both(quotient_of, ZERO, f, ZERO)

    def test_with_equal_ones(self):
        f = ([-1, 2], [0, 0, 3])
        self.check_both(sum_of, f, f, ([-2, 4], [0, 0, 3]))
        self.check_both(sum_of, ([1], [0, 2]), ([1], [0, 2]), ([1], [0, 1]))
        self.check_both(sum_of, f, opposite(f), ZERO)
        self.check_both(difference_of, f, f, ZERO)
        self.check_both(product_of, f, f, ([1, -4, 4], [0, 0, 0, 0, 9]))
        self.check_both(quotient_of, f, f, ([1], [1]))
        self.check_both(quotient_of, f, opposite(f), ([-1], [1]))

    def test_poles_that_fall_away(self):
        # 1 divided by t (t + 1) and 1 divided by t + 1 have the sum 1 divided by t.
        self.check_both(sum_of, ([1], [0, 1, 1]), ([1], [1, 1]), ([1], [0, 1]))
        self.check_both(difference_of, ([1, 1], [0, 1]), ([1], [0, 1]), ([1], [1]))
        self.check_both(product_of, ([0, 1], [1, 1]), ([1, 1], [0, 0, 1]), ([1], [0, 1]))
        self.check_both(quotient_of, ([1], [0, 1]), ([1], [0, 1]), ([1], [1]))
        self.check_both(quotient_of, ([1], [-2, 0, 1]), ([1], [0, -2, 0, 1]), ([0, 1], [1]))
        self.check_both(product_of, ([2], [3]), ([3], [2]), ([1], [1]))

    def test_numbers(self):
        maker = Maker(33)
        for _ in range(100):
            x, y = [Fraction(maker.source.randint(-9, 9), maker.source.randint(1, 9)) for _ in range(2)]
            for function, expected in self.FUNCTIONS:
                if y != 0 or function != quotient_of:
                    found = function(from_number(as_number(x)), from_number(as_number(y)))
                    self.assertEqual(found, from_number(as_number(expected(x, y))))

    def test_at_random(self):
        pairs = zip(some_fractions(34, 150), some_fractions(35, 150))
        for (p, q), (r, s) in pairs:
            for function, top, below in [
                (sum_of, sum_by_powers(product_by_powers(p, s), product_by_powers(r, q)), product_by_powers(q, s)),
                (difference_of, sum_by_powers(product_by_powers(p, s), product_by_powers([-c for c in r], q)),
                 product_by_powers(q, s)),
                (product_of, product_by_powers(p, r), product_by_powers(q, s)),
                (quotient_of, product_by_powers(p, s), product_by_powers(q, r)),
            ]:
                if below:
                    self.assertEqual(function((p, q), (r, s)), fraction_by_powers(top, below))

    def test_by_values(self):
        for f, g in zip(some_fractions(36, 40), some_fractions(37, 40)):
            for function, expected in self.FUNCTIONS:
                if g == ZERO and function == quotient_of:
                    continue
                found = function(f, g)
                for t in POINTS:
                    x, y = value_of(f, as_number(t)), value_of(g, as_number(t))
                    if x is not None and y is not None and (value(y) != 0 or function != quotient_of):
                        self.assertEqual(value_of(found, as_number(t)), as_number(expected(value(x), value(y))))


class ValueOfTest(unittest.TestCase):
    def check_value(self, f, x, expected):
        self.assertEqual(value_of(f, x), expected, (f, x))
        check_new(self, value_of, f, x)

    def test_worked_out(self):
        f = ([1, 1], [-2, 0, 1])
        self.check_value(f, (0, 1), (-1, 2))
        self.check_value(f, (-1, 1), (0, 1))
        self.check_value(f, (3, 2), (10, 1))
        self.check_value(([-3], [2]), (7, 1), (-3, 2))
        self.check_value(ZERO, (7, 1), (0, 1))
        self.check_value(([0, 1], [1]), (BIG, BIG + 1), (BIG, BIG + 1))

    def test_poles(self):
        self.check_value(([1], [0, 1]), (0, 1), None)
        self.check_value(([1], [0, 1]), (1, BIG), (BIG, 1))
        self.check_value(([0, 1], [-9, 0, 4]), (3, 2), None)
        self.check_value(([0, 1], [-9, 0, 4]), (-3, 2), None)
        self.check_value(([0, 1], [-9, 0, 4]), (1, 2), (-1, 16))
        self.check_value(([5], [1, -2, 1]), (1, 1), None)
        self.check_value(([5], [1, -2, 1]), (2, 1), (5, 1))

    def test_at_random(self):
        poles = 0
        for f in some_fractions(38, 100):
            for t in POINTS:
                below = polynomial_value(f[1], t)
                expected = None if below == 0 else as_number(polynomial_value(f[0], t) / below)
                self.assertEqual(value_of(f, as_number(t)), expected)
                poles += below == 0
        self.assertGreater(poles, 20)


class InsertedTest(unittest.TestCase):
    def check_inserted(self, p, f, expected):
        self.assertEqual(inserted(p, f), expected, (p, f))
        check_new(self, inserted, p, f)

    def test_the_polynomial_0_and_degree_0(self):
        for f in (ZERO, ([3], [2]), ([0, 1], [1]), ([1], [0, 1]), ([-2, 0, 1], [1, 3])):
            self.check_inserted([], f, ZERO)
            self.check_inserted([7], f, ([7], [1]))
            self.check_inserted([-1], f, ([-1], [1]))
            self.check_inserted([0, 1], f, f)

    def test_numbers(self):
        self.check_inserted([1, 2, 4], ([3], [2]), ([13], [1]))
        self.check_inserted([-3, 2], ([3], [2]), ZERO)
        self.check_inserted([0, 0, 1], ([-2], [3]), ([4], [9]))
        self.check_inserted([5, 1, 1], ZERO, ([5], [1]))
        self.check_inserted([0, 1, 1], ZERO, ZERO)

    def test_worked_out(self):
        self.check_inserted([-2, 0, 1], ([1], [0, 1]), ([1, 0, -2], [0, 0, 1]))
        self.check_inserted([1, 1], ([0, -1], [1]), ([1, -1], [1]))
        self.check_inserted([0, 2], ([1, 1], [4]), ([1, 1], [2]))
        self.check_inserted([1, 2], ([-1, 1], [2]), ([0, 1], [1]))
        self.check_inserted([3, 0, 4], ([1, 1], [2]), ([4, 2, 1], [1]))
        self.check_inserted([0, 0, 0, 2], ([1], [0, 2]), ([1], [0, 0, 0, 4]))

    def test_at_random(self):
        maker = Maker(39)
        for f in some_fractions(40, 150):
            p = maker.polynomial(5, 7)
            top, power = [], [1]
            for c in reversed(p):
                top = sum_by_powers(product_by_powers(top, f[0]), product_by_powers(power, [c] if c else []))
                power = product_by_powers(power, f[1])
            below = power if not p else divided_by_powers(power, f[1])[0]
            self.assertEqual(inserted(p, f), fraction_by_powers(top, [int(c) for c in below]), (p, f))

    def test_degree_20(self):
        p = [3] + [0] * 19 + [1]
        found = inserted(p, ([1] + [0] * 19 + [2], [1, 0, 1]))
        self.assertEqual([len(a) for a in found], [401, 41])
        self.assertEqual(value_of(found, (1, 1)), (3 * 2 ** 20 + 3 ** 20, 2 ** 20))
        self.assertIs(is_fraction((found[1], found[1])), False)


# No two of them have a root in common.
FACTORS = [
    line(0), line(1), line(2), line(-3, 2), line(7, 5), line(1, 3), line(-4), square(2), square(3), square(1, 2),
    square(-1), square(-2, 3), cube(2), cube(-5, 3), cube(7), line(99, 70), line(1, 1000), line(0, 1, -1),
]


class FractionSignTest(unittest.TestCase):
    def check_signs(self, f, polynomials, expected):
        """The signs on all cells of the division of the polynomials."""
        division = division_of(polynomials)
        self.assertEqual(len(expected), 2 * division[1] + 1)
        for cell, sign in enumerate(expected):
            self.assertEqual(fraction_sign(f, division, cell=cell), sign, (f, division, cell))
        check_new(self, fraction_sign, f, division, cell=0)

    def test_the_whole_line(self):
        for f, sign in [
            (ZERO, 0), (([3], [2]), 1), (([-3], [2]), -1), (([1, 0, 1], [2, 0, 1]), 1), (([-1], [1, 0, 1]), -1),
            (([0, 1], [1]), None), (([0, 0, 1], [1]), None), (([1], [0, 1]), None), (([1], [0, 0, 1]), None),
            (([-2, 0, 1], [1]), None),
        ]:
            self.check_signs(f, [], [sign])
            self.check_signs(f, [[1, 0, 1]], [sign])

    def test_roots_and_poles_at_the_ends_of_cells(self):
        self.check_signs(([0, 1], [1]), [[0, 1]], [-1, 0, 1])
        self.check_signs(([1], [0, 1]), [[0, 1]], [-1, None, 1])
        self.check_signs(([-2, 0, 1], [1]), [[-2, 0, 1]], [1, 0, -1, 0, 1])
        self.check_signs(([-1], [-2, 0, 1]), [[-2, 0, 1]], [-1, None, 1, None, -1])
        self.check_signs(([-1, 1], [-2, 1]), [[-2, 1], [-1, 1]], [1, 0, -1, None, 1])
        self.check_signs(([-2, 0, 0, 1], [0, 1]), [[0, 1], [-2, 0, 0, 1]], [1, None, -1, 0, 1])

    def test_roots_and_poles_inside_cells(self):
        self.check_signs(([-1, 1], [1]), [[0, 1]], [-1, -1, None])
        self.check_signs(([1], [-1, 1]), [[0, 1]], [-1, -1, None])
        self.check_signs(([-2, 0, 1], [1]), [[0, 1]], [None, -1, None])
        self.check_signs(([1], [-2, 0, 1]), [[-1, 1], [1, 1]], [None, -1, -1, -1, None])
        self.check_signs(([-1, 1], [-3, 1]), [[-2, 1]], [None, -1, None])
        # A root and a pole, so that the signs at both ends of the cell are the same.
        self.check_signs(([-1, 1], [-2, 1]), [[0, 1], [-3, 1]], [1, 1, None, 1, 1])

    def test_roots_elsewhere(self):
        self.check_signs(([-5, 1], [1, 1]), [[-2, 1], [-3, 1]], [None, -1, -1, -1, None])
        self.check_signs(([-5, 1], [1, 1]), [[-6, 1], [5, 1]], [1, 1, None, 1, 1])

    def test_even_multiplicity(self):
        self.check_signs(([0, 0, 1], [1]), [[0, 1]], [1, 0, 1])
        self.check_signs(([0, 0, 1], [1]), [[-1, 1]], [None, 1, 1])
        self.check_signs(([-1], [0, 0, 1]), [[-1, 1]], [None, -1, -1])
        self.check_signs(([-1], [0, 0, 1]), [[0, 1]], [-1, None, -1])
        self.check_signs(([4, 0, -4, 0, 1], [1]), [[0, 1]], [None, 1, None])
        self.check_signs(([4, 0, -4, 0, 1], [3, 1]), [[-2, 0, 1]], [None, 0, 1, 0, 1])
        self.check_signs(([1], [4, 0, -4, 0, 1]), [[-2, 0, 1]], [1, None, 1, None, 1])

    def test_the_fraction_0(self):
        for polynomials in ([], [[0, 1]], [[-2, 0, 1], [0, 1]], [[-2, 0, 0, 1]]):
            self.check_signs(ZERO, polynomials, [0] * (2 * division_of(polynomials)[1] + 1))

    def test_cells_that_are_irrational_roots(self):
        # At the root of 2 the value is less than 0 by little, then greater.
        self.check_signs(([-14143, 10000], [1]), [[-2, 0, 1]], [-1, -1, -1, -1, None])
        self.check_signs(([-14142, 10000], [1]), [[-2, 0, 1]], [-1, -1, None, 1, 1])
        close = 14142135623730950488016887242096980785696
        self.check_signs(([-close, BIG], [1]), [[-2, 0, 1]], [-1, -1, None, 1, 1])
        self.check_signs(([1], [-close - 1, BIG]), [[-2, 0, 1]], [-1, -1, -1, -1, None])
        # Some roots of a part are those of the fraction, the others are not.
        self.check_signs(([-2, 0, 1], [1]), [[6, 0, -5, 0, 1]], [1, 1, 1, 0, -1, 0, 1, 1, 1])
        self.check_signs(([1], [-2, 0, 1]), [[6, 0, -5, 0, 1]], [1, 1, 1, None, -1, None, 1, 1, 1])

    def test_roots_beside_those_of_the_division(self):
        close = 14142135623730950488016887242096980785696
        polynomials = [[-close, BIG], [-close - 1, BIG]]
        self.check_signs(([-2, 0, 1], [1]), polynomials, [None, -1, None, 1, 1])
        self.check_signs(([-2, 0, 1], [3, 1]), polynomials + [[-2, 0, 1]], [None, 0, -1, -1, -1, 0, 1, 1, 1])

    def expected_sign(self, places, cell, top, below):
        """The sign on the cell between these keys, by the factors of the two polynomials."""
        if cell % 2 == 1:
            place = places[cell // 2]
            return None if sign_by(below, place) == 0 else sign_by(top, place) * sign_by(below, place)
        ends = ([None] + places + [None])[cell // 2:cell // 2 + 2]
        for place in keys_of(top + below):
            if (ends[0] is None or ends[0] < place) and (ends[1] is None or place < ends[1]):
                return None
        inner = self.between(*ends)
        return sign_by(top, inner) * sign_by(below, inner)

    def between(self, low, high):
        if low is None:
            return Fraction(0) if high is None else high - 1
        return low + 1 if high is None else (low + high) / 2

    def test_at_random(self):
        source = random.Random(41)
        seen = {}
        for _ in range(250):
            pool = source.sample(FACTORS, 5)
            top = source.choices(pool, k=source.randint(0, 3))
            below = source.choices([factor for factor in FACTORS if factor not in top], k=source.randint(0, 2))
            wide = pool + source.sample(FACTORS, 2)
            lists = [source.choices(wide, k=source.randint(1, 3)) for _ in range(source.randint(0, 3))]
            f = fraction(polynomial_of(top), polynomial_of(below))
            division = division_of([polynomial_of(factors) for factors in lists])
            places = keys_of([factor for factors in lists for factor in factors])
            # In lowest terms a common root is none; the pool has the root 0 twice.
            common = [factor for factor in top if set(factor.keys()) & set(keys_of(below))]
            if common:
                continue
            for cell in range(2 * len(places) + 1):
                expected = self.expected_sign(places, cell, top, below)
                self.assertEqual(fraction_sign(f, division, cell=cell), expected, (f, division, cell))
                seen[cell % 2, expected] = seen.get((cell % 2, expected), 0) + 1
        self.assertEqual(len(seen), 7)
        self.assertGreater(min(seen.values()), 20)

    def test_degree_20(self):
        p = polynomial_of([line(k, 7) for k in range(-10, 10)])
        q = polynomial_of([square(-k) for k in range(1, 11)])
        f = fraction(p, q)
        self.check_signs(f, [p], [(-1) ** (k // 2) if k % 2 == 0 else 0 for k in range(41)])
        self.check_signs(f, [[-1, 14]], [None, -1, None])
        self.check_signs(fraction(q, p), [p], [(-1) ** (k // 2) if k % 2 == 0 else None for k in range(41)])


if __name__ == "__main__":
    unittest.main()

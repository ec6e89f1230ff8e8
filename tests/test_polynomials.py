import random
import unittest
from fractions import Fraction
from math import gcd

from helpers import (
    as_number, check_new, cut, divided_by_powers, divisor_by_powers, made_plain, product_by_powers, sum_by_powers,
    value,
)
from wheretrue.errors import BadNumber, BadSize
from wheretrue.polynomials import (
    add, check_polynomial, common_divisor, content, derivative, divides, false_rest, multiply, plain, product,
    quotient, scale, square_free, subtract, trimmed, value_at,
)

GREAT = 10 ** 50
POLYNOMIALS = [
    [], [1], [-1], [6], [-4], [0, 1], [0, -2], [1, 1], [-1, 1], [2, -2], [3, 6], [1, 0, 1], [-2, 0, 1], [0, 0, -3],
    [1, 2, 1], [-1, 0, 1], [4, -4, 1], [2, -4, -1, 2], [0, 0, 0, 5], [-8, 0, 0, 1], [1, 0, -2, 0, 1],
    [6, -10, 2, 4, -2], [GREAT], [0, -GREAT], [GREAT, 1], [1, GREAT, -GREAT], [7 * GREAT, 0, -14 * GREAT],
]


def some_polynomials(many, seed, *, degree, bound):
    """Polynomials that are the same at each run."""
    source = random.Random(seed)
    found = []
    for _ in range(many):
        size = source.randint(0, degree + 1)
        found.append(cut([source.randint(-bound, bound) for _ in range(size)]))
    return found


class CheckPolynomialTest(unittest.TestCase):
    def check_raises(self, error, polynomial, *, most, bound):
        with self.assertRaises(error) as caught:
            check_polynomial(polynomial, most=most, bound=bound)
        self.assertIs(caught.exception.__class__, error)

    def test_right_ones(self):
        for polynomial, most, bound in [
            ([], -1, 1), ([], 0, 1), ([], 4, 100), ([1], 0, 2), ([-1], 0, 2), ([0, 1], 1, 2), ([0, 0, 19], 2, 20),
            ([99, -99, 0, 99, -99], 4, 100), ([-GREAT], 0, GREAT + 1), ([0] * 399 + [1], 399, 2),
        ]:
            self.assertIsNone(check_polynomial(polynomial, most=most, bound=bound))

    def test_too_many_coefficients(self):
        for polynomial, most in [([1], -1), ([0], -1), ([1, 1], 0), ([0, 0, 0, 1], 2), ([1] * 6, 4)]:
            self.check_raises(BadSize, polynomial, most=most, bound=100)

    def test_no_whole_numbers(self):
        for wrong in (True, False, None, 1.0, "1", "", [], [1], (1,), (1, 1), Fraction(1), 1j, {}, b"1"):
            self.check_raises(BadNumber, [wrong], most=4, bound=100)
            self.check_raises(BadNumber, [wrong, 1], most=4, bound=100)
            self.check_raises(BadNumber, [1, wrong, 1], most=4, bound=100)
            self.check_raises(BadNumber, [1, wrong], most=4, bound=100)

    def test_too_great_coefficients(self):
        for polynomial, bound in [
            ([100], 100), ([-100], 100), ([1, 100], 100), ([-100, 1], 100), ([1, 101, 1], 100), ([1], 1), ([-1], 1),
            ([GREAT], GREAT), ([-GREAT], GREAT), ([GREAT], 100),
        ]:
            self.check_raises(BadNumber, polynomial, most=4, bound=bound)

    def test_zero_as_last_coefficient(self):
        for polynomial in ([0], [0, 0], [1, 0], [1, 2, 0], [5, 0, 0]):
            self.check_raises(BadNumber, polynomial, most=4, bound=100)

    def test_size_comes_before_coefficients(self):
        for polynomial in ([None, 1, 1], [1, 100, 1], [1, 1, 0], [1, 1, True]):
            self.check_raises(BadSize, polynomial, most=1, bound=100)

    def test_leaves_its_list(self):
        check_new(self, check_polynomial, [1, 2], most=1, bound=3)


class SimpleDeedsTest(unittest.TestCase):
    def test_trimmed(self):
        for coefficients, expected in [
            ([], []), ([0], []), ([0, 0, 0], []), ([1], [1]), ([0, 1], [0, 1]), ([0, 1, 0], [0, 1]),
            ([-1, 0, 0], [-1]), ([0, 2, 0, -3, 0, 0], [0, 2, 0, -3]), ([GREAT, 0], [GREAT]),
        ]:
            self.assertEqual(trimmed(coefficients), expected)

    def test_add_and_subtract(self):
        for a in POLYNOMIALS:
            for b in POLYNOMIALS:
                self.assertEqual(add(a, b), sum_by_powers(a, b))
                self.assertEqual(subtract(a, b), sum_by_powers(a, [-c for c in b]))

    def test_leading_coefficients_that_fall_away(self):
        self.assertEqual(add([1, 2, 3], [1, -2, -3]), [2])
        self.assertEqual(add([1, 2], [-1, -2]), [])
        self.assertEqual(subtract([1, 2, 3], [0, 2, 3]), [1])
        self.assertEqual(subtract([GREAT, 5], [GREAT, 5]), [])

    def test_multiply(self):
        for a in POLYNOMIALS:
            for b in POLYNOMIALS:
                self.assertEqual(multiply(a, b), product_by_powers(a, b))

    def test_scale(self):
        for a in POLYNOMIALS:
            for factor in (1, -1, 3, -GREAT):
                self.assertEqual(scale(a, factor), [c * factor for c in a])
            self.assertEqual(scale(a, 0), [])

    def test_derivative(self):
        for a, expected in [
            ([], []), ([5], []), ([5, 3], [3]), ([0, 0, 1], [0, 2]), ([7, -3, 0, 2], [-3, 0, 6]),
            ([0, 0, 0, 0, -GREAT], [0, 0, 0, -4 * GREAT]),
        ]:
            self.assertEqual(derivative(a), expected)

    def test_value_at(self):
        for a in POLYNOMIALS:
            for x in [(0, 1), (1, 1), (-1, 1), (1, 2), (-2, 3), (7, 5), (GREAT, 3), (-1, GREAT)]:
                expected = sum((c * value(x) ** power for power, c in enumerate(a)), Fraction(0))
                self.assertEqual(value_at(a, x), as_number(expected))

    def test_value_at_of_the_polynomial_0_and_of_constants(self):
        self.assertEqual(value_at([], (2, 3)), (0, 1))
        self.assertEqual(value_at([-7], (2, 3)), (-7, 1))

    def test_content(self):
        for a, expected in [
            ([], 0), ([1], 1), ([-6], 6), ([4, -6], 2), ([0, 0, -9], 9), ([6, 10, 15], 1), ([12, 0, 18], 6),
            ([6 * GREAT, -9 * GREAT], 3 * GREAT),
        ]:
            self.assertEqual(content(a), expected)

    def test_plain(self):
        for a, expected in [
            ([], []), ([1], [1]), ([-1], [1]), ([8], [1]), ([-GREAT], [1]), ([4, -6], [-2, 3]), ([-4, 6], [-2, 3]),
            ([0, 0, -9], [0, 0, 1]), ([6, 10, 15], [6, 10, 15]), ([7 * GREAT, 0, -14 * GREAT], [-1, 0, 2]),
        ]:
            self.assertEqual(plain(a), expected)

    def test_plain_and_content_make_the_polynomial(self):
        for a in POLYNOMIALS:
            sign = -1 if a and a[-1] < 0 else 1
            self.assertEqual([sign * content(a) * c for c in plain(a)], a)
            if a:
                self.assertEqual(gcd(*plain(a)), 1)
                self.assertGreater(plain(a)[-1], 0)

    def test_product(self):
        self.assertEqual(product([]), [1])
        self.assertEqual(product([[2, -3]]), [2, -3])
        self.assertEqual(product([[1, 1], [-1, 1], [2]]), [-2, 0, 2])
        self.assertEqual(product([[1, 1], [], [2]]), [])
        self.assertEqual(product([[1, 1]] * 5), [1, 5, 10, 10, 5, 1])


class FalseRestTest(unittest.TestCase):
    def check_rest(self, a, b):
        rest = false_rest(a, b)
        if len(a) < len(b):
            self.assertEqual(rest, a)
            return
        factor = b[-1] ** (len(a) - len(b) + 1)
        expected = divided_by_powers([c * factor for c in a], b)[1]
        self.assertEqual(rest, expected, (a, b))
        self.assertTrue(all(isinstance(c, int) for c in rest))

    def test_example_of_the_document(self):
        self.assertEqual(false_rest([1, 0, 1], [1, 2]), [5])

    def test_degree_below(self):
        self.assertEqual(false_rest([], [1]), [])
        self.assertEqual(false_rest([], [1, 2]), [])
        self.assertEqual(false_rest([6], [2, 4]), [6])
        self.assertEqual(false_rest([2, -4], [1, 0, -3]), [2, -4])

    def test_degree_equal(self):
        self.assertEqual(false_rest([5], [3]), [])
        self.assertEqual(false_rest([1, 2], [3, 5]), [-1])
        self.assertEqual(false_rest([1, 2], [3, -5]), [-11])
        self.assertEqual(false_rest([2, 4], [1, 2]), [])

    def test_degree_above(self):
        self.assertEqual(false_rest([1, 2, 3], [-7]), [])
        self.assertEqual(false_rest([0, 0, 1], [1, 3]), [1])
        self.assertEqual(false_rest([0, 0, 0, 1], [1, 3]), [-1])

    def test_several_leading_coefficients_fall_away_at_once(self):
        # t^4 + 1 less t^2 times t^2 is 1, yet the factor is 2 multiplied with itself three times.
        self.assertEqual(false_rest([1, 0, 0, 0, 1], [0, 0, 2]), [8])
        self.assertEqual(false_rest([5, 0, 0, 0, 0, 1], [0, -3]), [5 * -243])
        self.assertEqual(false_rest([3, 0, 1, 1, 1], [1, 1, 1]), [3])
        self.assertEqual(false_rest([3, 0, -2, -2, -2], [2, 2, 2]), [24])
        self.assertEqual(false_rest([3, 0, -2, -2, -2], [-2, -2, -2]), [-24])

    def test_by_its_definition(self):
        for a in POLYNOMIALS:
            for b in POLYNOMIALS:
                if b:
                    self.check_rest(a, b)

    def test_by_its_definition_with_many_polynomials(self):
        firsts = some_polynomials(400, 1, degree=7, bound=4)
        seconds = some_polynomials(400, 2, degree=5, bound=3)
        for a, b in zip(firsts, seconds):
            if b:
                self.check_rest(a, b)


class DivisorsTest(unittest.TestCase):
    def test_divides(self):
        for a, b, expected in [
            ([1], [], True), ([0, 1], [], True), ([7], [1, 1], True), ([2], [1], True), ([GREAT], [3], True),
            ([2, 4], [1, 2], True), ([1, 2], [2, 4], True), ([1, 1], [-1, 0, 1], True), ([-1, 0, 1], [1, 1], False),
            ([0, 1], [1], False), ([1, 1], [1, 2], False), ([0, 2], [0, 0, 0, 3], True), ([1, 0, 1], [1, 0, 2], False),
        ]:
            self.assertIs(divides(a, b), expected, (a, b))

    def test_divides_by_its_definition(self):
        for a in POLYNOMIALS:
            for b in POLYNOMIALS:
                if a:
                    self.assertIs(divides(a, b), divided_by_powers(b, a)[1] == [], (a, b))

    def test_quotient(self):
        for a, b, expected in [
            ([6], [4], [1]), ([-6], [4], [1]), ([-1, 0, 1], [1, 1], [-1, 1]), ([2, 4], [-3, -6], [1]),
            ([4, 0, -4], [1, -1], [1, 1]), ([0, 0, 5], [3], [0, 0, 1]), ([0, 0, 0, 7], [0, 2], [0, 0, 1]),
        ]:
            self.assertEqual(quotient(a, b), expected, (a, b))

    def test_quotient_takes_back_a_product(self):
        for a in POLYNOMIALS:
            for b in POLYNOMIALS:
                if a and b:
                    self.assertEqual(quotient(product_by_powers(a, b), b), made_plain(a), (a, b))

    def test_common_divisor(self):
        for a, b, expected in [
            ([], [], []), ([], [-6], [1]), ([4], [], [1]), ([], [2, -4], [-1, 2]), ([2, -4], [], [-1, 2]),
            ([4], [6], [1]), ([4], [2, 6], [1]), ([-1, 0, 1], [1, 2, 1], [1, 1]), ([-2, 0, 2], [3, -3], [-1, 1]),
            ([1, 1], [2, 1], [1]), ([0, 0, 0, -6], [0, 0, 4], [0, 0, 1]),
        ]:
            self.assertEqual(common_divisor(a, b), expected, (a, b))
            self.assertEqual(common_divisor(b, a), expected, (b, a))

    def test_common_divisor_by_another_way(self):
        for a in POLYNOMIALS:
            for b in POLYNOMIALS:
                self.assertEqual(common_divisor(a, b), divisor_by_powers(a, b), (a, b))

    def test_common_divisor_of_polynomials_with_a_common_factor(self):
        firsts = some_polynomials(60, 3, degree=5, bound=9)
        seconds = some_polynomials(60, 4, degree=5, bound=GREAT)
        factors = some_polynomials(60, 5, degree=4, bound=30)
        for a, b, factor in zip(firsts, seconds, factors):
            one, other = product_by_powers(a, factor), product_by_powers(b, factor)
            self.assertEqual(common_divisor(one, other), divisor_by_powers(one, other))

    def test_square_free(self):
        for a, expected in [
            ([5], [1]), ([-5], [1]), ([0, -3], [0, 1]), ([0, 0, 0, 7], [0, 1]), ([1, 2, 1], [1, 1]),
            ([-2, 0, 1], [-2, 0, 1]), ([4, 0, -8, 0, 4], [-1, 0, 1]), ([1, 0, 2, 0, 1], [1, 0, 1]),
            ([-6, 10, -2, -2], [-3, 2, 1]), ([GREAT, -2 * GREAT, GREAT], [-1, 1]),
        ]:
            self.assertEqual(square_free(a), expected, a)

    def test_square_free_keeps_each_factor_once(self):
        one, other, third = [-1, 2], [-2, 0, 1], [3, 1]
        for powers in [(1, 1, 1), (2, 1, 3), (1, 4, 2), (3, 3, 0), (0, 2, 1)]:
            parts = [part for part, power in zip((one, other, third), powers) for _ in range(power)]
            once = [part for part, power in zip((one, other, third), powers) if power]
            found = square_free(scale(product(parts), -6))
            self.assertEqual(found, product(once))
            self.assertEqual(common_divisor(found, derivative(found)), [1])


class ListsTest(unittest.TestCase):
    def test_arguments_stay_and_what_is_returned_is_new(self):
        for a in POLYNOMIALS:
            check_new(self, trimmed, a + [0])
            check_new(self, trimmed, a)
            check_new(self, scale, a, 1)
            check_new(self, scale, a, 0)
            check_new(self, derivative, a)
            check_new(self, value_at, a, (2, 3))
            check_new(self, content, a)
            check_new(self, plain, a)
            check_new(self, product, [a])
            check_new(self, product, [a, [1]])

    def test_arguments_stay_with_two_polynomials(self):
        for a in POLYNOMIALS:
            for b in ([], [1], [1, 1], [1, 0, 1]):
                for function in (add, subtract, multiply, common_divisor):
                    check_new(self, function, a, b)
                    check_new(self, function, b, a)
                if b:
                    check_new(self, false_rest, a, b)
                    check_new(self, divides, b, a)
            if a:
                check_new(self, square_free, a)
                check_new(self, quotient, a, a)
                check_new(self, quotient, a, [1])

    def test_product_of_nothing_is_new(self):
        check_new(self, product, [])

    def test_one_list_for_both_arguments(self):
        a = [1, -2]
        self.assertEqual((add(a, a), subtract(a, a), multiply(a, a)), ([2, -4], [], [1, -4, 4]))
        self.assertEqual((false_rest(a, a), common_divisor(a, a), quotient(a, a)), ([], [-1, 2], [1]))
        self.assertEqual(a, [1, -2])


if __name__ == "__main__":
    unittest.main()

import itertools
import random
import unittest
from fractions import Fraction

from helpers import as_number, check_new, product_by_powers
from known import SQUARE_FREE, cube, line, polynomial_of, square
from wheretrue.roots import floor_of, rational_roots


class RationalRootsTest(unittest.TestCase):
    def check_roots(self, a, roots):
        self.assertEqual(rational_roots(a), [as_number(Fraction(root)) for root in roots], a)
        check_new(self, rational_roots, a)

    def test_worked_out(self):
        self.check_roots([2, -4, -1, 2], [Fraction(1, 2)])
        self.check_roots([-2, 0, 1], [])
        self.check_roots([1, 0, 1], [])
        self.check_roots([-1, 0, 1], [-1, 1])
        self.check_roots([-4, 0, 9], [Fraction(-2, 3), Fraction(2, 3)])
        self.check_roots([6, -5, 1], [2, 3])
        self.check_roots([-6, 11, -6, 1], [1, 2, 3])
        self.check_roots([-7, 3], [Fraction(7, 3)])
        self.check_roots([7, 3], [Fraction(-7, 3)])
        self.check_roots([14, -6], [Fraction(7, 3)])
        self.check_roots([-1, 0, 0, 8], [Fraction(1, 2)])
        self.check_roots([-1, 1, -1, 1], [1])
        self.check_roots([-1] + [0] * 39 + [1], [-1, 1])
        self.check_roots([-1] + [0] * 38 + [1], [1])
        self.check_roots([-2 ** 40] + [0] * 39 + [1], [-2, 2])
        self.check_roots([-2 ** 39] + [0] * 39 + [1], [])

    def test_constants(self):
        for constant in (1, -1, 2, -60, 10 ** 60):
            self.check_roots([constant], [])

    def test_zero_as_a_root(self):
        self.check_roots([0, 1], [0])
        self.check_roots([0, -5], [0])
        self.check_roots([0, 0, 0, 7], [0])
        self.check_roots([0, -2, 0, 1], [0])
        self.check_roots([0, 1, -2], [0, Fraction(1, 2)])
        self.check_roots([0, 0, 1, 2], [Fraction(-1, 2), 0])

    def test_a_root_more_than_once(self):
        self.check_roots([1, -2, 1], [1])
        self.check_roots([1, 6, 9], [Fraction(-1, 3)])
        self.check_roots([4, 0, -4, 0, 1], [])
        self.check_roots(polynomial_of([line(2, 3)] * 5 + [square(2)] * 2), [Fraction(2, 3)])
        factors = [line(2, 3)] * 5 + [line(-1, 7)] * 3 + [line(5)]
        self.check_roots(polynomial_of(factors), [Fraction(-1, 7), Fraction(2, 3), 5])

    def test_products_of_known_factors(self):
        for factors in SQUARE_FREE:
            roots = [factor.border for factor in factors if factor.power == 1]
            # Squares and cubes of whole numbers and their quotients are the only ones with rational roots.
            self.assertFalse([factor for factor in factors if factor.power > 1 and self.has_rational_root(factor)])
            self.check_roots(polynomial_of(factors), sorted(roots))
            self.check_roots(product_by_powers(polynomial_of(factors), polynomial_of(factors)), sorted(roots))

    def has_rational_root(self, factor):
        candidates = [Fraction(n, d) for n in range(-20, 21) for d in range(1, 21)]
        return any(one ** factor.power == factor.border for one in candidates)

    def test_random_products(self):
        source = random.Random(23)
        for _ in range(150):
            roots = [Fraction(source.randint(-30, 30), source.randint(1, 12)) for _ in range(source.randint(0, 5))]
            factors = [line(root.numerator, root.denominator, source.choice([1, -1, 2, 3])) for root in roots]
            factors += source.sample([square(2), square(-1), cube(2, 9), square(7, 5), cube(-3)], source.randint(0, 3))
            self.check_roots(polynomial_of(factors), sorted(set(roots)))

    def test_all_small_polynomials(self):
        candidates = sorted({Fraction(n, d) for n in range(-3, 4) for d in (1, 2, 3)})
        for a in itertools.product(range(-3, 4), repeat=3):
            for lead in (1, -2, 3):
                p = [*a, lead]
                roots = [x for x in candidates if sum([c * x ** power for power, c in enumerate(p)]) == 0]
                self.assertEqual(rational_roots(p), [as_number(root) for root in roots], p)

    def test_many_divisors(self):
        # 720720 and 367567200 have 240 and 1152 divisors.
        self.check_roots([-720720, 1], [720720])
        self.check_roots([-1, 720720], [Fraction(1, 720720)])
        self.check_roots([-367567200, 720720], [510])
        self.check_roots([720720, 1, 0, 720720], [])
        self.check_roots(
            polynomial_of([line(360360, 17), line(-55440, 19), line(1, 720720), square(720721, 720720)]),
            [Fraction(-55440, 19), Fraction(1, 720720), Fraction(360360, 17)],
        )
        great = 1
        for k in range(1, 41):
            great *= k
        self.check_roots([-great, great], [1])
        self.check_roots([-great, 0, great + 1], [])
        self.check_roots([-great, great - 1, 1], [-great, 1])

    def test_many_digits(self):
        n, d = 10 ** 60 + 7, 10 ** 55 + 3
        self.check_roots([-n, d], [Fraction(n, d)])
        self.check_roots([-n * n, 0, d * d], [Fraction(-n, d), Fraction(n, d)])
        self.check_roots([-n * n - 1, 0, d * d], [])
        self.check_roots(polynomial_of([line(n, d), line(n + 1, d), line(-n, d + 1), square(n, d)]),
                         sorted([Fraction(n, d), Fraction(n + 1, d), Fraction(-n, d + 1)]))
        self.check_roots(polynomial_of([line(n, d), line(d, n), cube(n, d)]), [Fraction(d, n), Fraction(n, d)])

    def test_many_roots(self):
        self.check_roots(polynomial_of([line(k) for k in range(-20, 20)]), range(-20, 20))
        self.check_roots(polynomial_of([line(k, 41) for k in range(1, 41)]), [Fraction(k, 41) for k in range(1, 41)])
        self.check_roots(polynomial_of([line(1, k) for k in range(1, 21)]), [Fraction(1, k) for k in range(20, 0, -1)])

    def test_a_rational_root_next_to_an_irrational_one(self):
        near = Fraction(1414213562373095048801688724209, 10 ** 30)
        self.check_roots(polynomial_of([square(2), line(near.numerator, near.denominator)]), [near])
        # The floor of the root for the leading coefficient is the only candidate.
        self.assertEqual(floor_of([-2, 0, 1], 1, grid=1), 1)


if __name__ == "__main__":
    unittest.main()

import random
import unittest
from math import isqrt

from helpers import check_new, cut, made_plain, product_by_powers
from wheretrue.modular import PRIMES, divisor_modulo, inverse, joined, nearest, prime_below
from wheretrue.polynomials import common_divisor, quotient, square_free


def is_prime(n):
    return n > 1 and all(n % k for k in range(2, isqrt(n) + 1))


def product_modulo(a, b, prime):
    return cut([c % prime for c in product_by_powers(a, b)])


class PrimesTest(unittest.TestCase):
    def test_the_greatest_primes_below_a_power_of_2(self):
        found = [n for n in range(PRIMES[-1], 2 ** 30, 2) if is_prime(n)]
        self.assertEqual(found[::-1], list(PRIMES))

    def test_primes_below(self):
        for prime, following in zip(PRIMES, PRIMES[1:]):
            self.assertEqual(prime_below(prime), following)
        prime = PRIMES[-1]
        for _ in range(5):
            following = prime_below(prime)
            self.assertTrue(is_prime(following))
            self.assertFalse([n for n in range(following + 2, prime, 2) if is_prime(n)])
            prime = following
        for prime, following in [(13, 11), (11, 7), (29, 23), (127, 113), (7, 5), (53, 47)]:
            self.assertEqual(prime_below(prime), following)

    def test_inverses(self):
        for prime in (2, 3, 7, 101):
            for a in [n for n in range(-150, 150) if n % prime]:
                found = inverse(a, prime)
                self.assertEqual(found * a % prime, 1)
                self.assertTrue(0 < found < prime)
        self.assertEqual(inverse(10 ** 60, PRIMES[0]) * 10 ** 60 % PRIMES[0], 1)


class DivisorModuloTest(unittest.TestCase):
    def test_products(self):
        source = random.Random(33)
        for prime in (5, 101, PRIMES[0]):
            for _ in range(100):
                common, a, b = [
                    [source.randint(-prime, prime) for _ in range(source.randint(0, 4))] + [1] for _ in range(3)
                ]
                found = divisor_modulo(product_by_powers(common, a), product_by_powers(common, b), prime)
                self.assertEqual(found[-1], 1)
                rest = divisor_modulo(found, common, prime)
                self.assertEqual(rest, [c % prime for c in common])
                again = product_modulo(divisor_modulo(a, b, prime), common, prime)
                self.assertEqual(found, again)

    def test_coefficients_together(self):
        source = random.Random(34)
        modulus = 1
        whole = [source.randint(-10 ** 30, 10 ** 30) for _ in range(50)] + [0, 1, -1]
        found = [0] * len(whole)
        for prime in PRIMES[:5]:
            found = joined(found, modulus, [c % prime for c in whole], prime)
            modulus *= prime
            self.assertEqual(found, [c % modulus for c in whole])
        self.assertEqual(nearest(found, modulus), whole)
        self.assertEqual(nearest([0, 1, 2, 3, 4, 5, 6], 7), [0, 1, 2, 3, -3, -2, -1])


class CommonDivisorTest(unittest.TestCase):
    """Common divisors for which the first primes do not do."""

    def check_divisor(self, common, a, b):
        first, second = product_by_powers(common, a), product_by_powers(common, b)
        self.assertEqual(common_divisor(first, second), made_plain(common))
        self.assertEqual(common_divisor(second, first), made_plain(common))
        self.assertEqual(quotient(first, common), made_plain(a))
        check_new(self, common_divisor, first, second)

    def test_alike_modulo_a_prime(self):
        for many in (1, 2, 3):
            for prime in PRIMES[:many]:
                for common in ([1], [-1, 1], [5, 3, 2], [10 ** 60 + 7, -3, 10 ** 45, 9], [2, 0, 10 ** 100 + 1]):
                    self.check_divisor(common, [0, 1], [prime, 1])
                    self.check_divisor(common, [1, 2, 1], [1, prime + 2, 1])
                    self.check_divisor(common, [1, 0, 1], [1, 1, prime + 1])

    def test_alike_modulo_all_primes_of_the_list(self):
        all_primes = 1
        for prime in PRIMES:
            all_primes *= prime
        self.check_divisor([1], [0, 1], [all_primes, 1])
        self.check_divisor([7, -3, 5], [0, 1], [all_primes, 1])
        self.check_divisor([10 ** 300, 1, 10 ** 299 + 3], [1, 1], [3, 1])

    def test_a_prime_that_divides_leading_coefficients(self):
        for prime in PRIMES[:2]:
            for common in ([1], [-1, 1], [3, prime], [prime, 0, 10 ** 30]):
                self.check_divisor(common, [1, prime], [2, 1])
                self.check_divisor(common, [1, 3], [2, 0, 5 * prime])
                self.check_divisor(common, [1, prime], [1, 0, -prime])
                self.check_divisor(common, [1, 1, PRIMES[0] * PRIMES[1]], [2, 1, PRIMES[0]])

    def test_square_free_parts(self):
        for prime in PRIMES[:2]:
            # Modulo the prime the first one is a square.
            self.assertEqual(square_free([1 + prime, 2, 1]), [1 + prime, 2, 1])
            self.assertEqual(square_free(product_by_powers([1, prime], [1, prime])), [1, prime])
            whole = product_by_powers([1 + prime, 2, 1], [3, 1])
            self.assertEqual(square_free(whole), whole)
            self.assertEqual(square_free(product_by_powers(whole, [3, 1])), whole)


if __name__ == "__main__":
    unittest.main()

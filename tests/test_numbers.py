import unittest
from fractions import Fraction

from helpers import as_number, check_new, value
from wheretrue.numbers import (
    compare, divided, is_number, is_short, minus, number, plus, times, total,
)

GREAT = 10 ** 60
NUMBERS = [
    (0, 1), (1, 1), (-1, 1), (1, 2), (-1, 2), (2, 3), (-3, 2), (5, 6), (999, 998), (-999, 1),
    (GREAT, 1), (-GREAT, 1), (1, GREAT), (GREAT + 1, GREAT), (-GREAT, 3 * GREAT - 1),
]
NO_NUMBERS = [
    None, True, False, 0, 1, -3, 1.5, "", "(1, 2)", "ab", b"ab", [], [1, 2], [0, 1], {}, {1: 2}, {1, 2}, range(2),
    (), (1,), (1, 2, 3), ((1, 2),), ([1, 2],),
    (1, 0), (0, 0), (0, 2), (0, -1), (1, -1), (1, -2), (-1, -2), (2, 2), (2, 4), (-2, 4), (6, 3), (GREAT, GREAT),
    (True, 2), (1, True), (False, 1), (True, True), (None, 1), (1, None), (1.0, 2), (1, 2.0), ("1", 2), (1, "2"),
    ([1], 2), (1, (2,)), (Fraction(1), 2), (1, Fraction(2)), (2j, 1), object(), int, is_number,
]


class IsNumberTest(unittest.TestCase):
    def test_numbers(self):
        for one in NUMBERS:
            self.assertIs(is_number(one), True, one)

    def test_other_values(self):
        for one in NO_NUMBERS:
            self.assertIs(is_number(one), False, one)

    def test_lowest_terms_alone(self):
        for n in range(-13, 14):
            for d in range(-13, 14):
                lowest = d != 0 and as_number(Fraction(n, d)) == (n, d)
                self.assertIs(is_number((n, d)), lowest, (n, d))


class IsShortTest(unittest.TestCase):
    def test_short_numbers(self):
        for one in [(0, 1), (1, 1), (-1, 2), (999, 1), (-999, 1), (1, 999), (999, 998), (-998, 999)]:
            self.assertIs(is_short(one), True, one)

    def test_longer_numbers(self):
        for one in [(1000, 1), (-1000, 1), (1, 1000), (-1, 1000), (1001, 1000), (1000, 999), (999, 1000),
                    (GREAT, 1), (-GREAT, 7), (1, GREAT)]:
            self.assertIs(is_short(one), False, one)

    def test_other_values(self):
        for one in NO_NUMBERS:
            self.assertIs(is_short(one), False, one)


class NumberTest(unittest.TestCase):
    def test_small_whole_numbers(self):
        for n in range(-13, 14):
            for d in range(-13, 14):
                if d != 0:
                    self.assertEqual(number(n, d), as_number(Fraction(n, d)))

    def test_zero_is_one_number(self):
        for d in (1, 2, -1, -7, GREAT, -GREAT):
            self.assertEqual(number(0, d), (0, 1))

    def test_great_whole_numbers(self):
        self.assertEqual(number(6 * GREAT, -4 * GREAT), (-3, 2))
        self.assertEqual(number(-GREAT, -1), (GREAT, 1))
        self.assertEqual(number(GREAT + 1, GREAT), (GREAT + 1, GREAT))
        self.assertEqual(number(-5, 5 * GREAT), (-1, GREAT))

    def test_is_a_tuple_of_whole_numbers(self):
        for n, d in [(4, -6), (0, -3), (8, 2)]:
            self.assertIs(is_number(number(n, d)), True)


class DeedsTest(unittest.TestCase):
    def test_compare(self):
        for a in NUMBERS:
            for b in NUMBERS:
                expected = (value(a) > value(b)) - (value(a) < value(b))
                self.assertEqual(compare(a, b), expected, (a, b))

    def test_compare_returns_whole_numbers(self):
        self.assertEqual([repr(compare(a, (1, 2))) for a in [(1, 3), (1, 2), (2, 3)]], ["-1", "0", "1"])

    def test_compare_what_is_nearly_equal(self):
        self.assertEqual(compare((GREAT, GREAT + 1), (GREAT + 1, GREAT + 2)), -1)
        self.assertEqual(compare((-GREAT, GREAT + 1), (-GREAT - 1, GREAT + 2)), 1)

    def test_sum_difference_and_product(self):
        for a in NUMBERS:
            for b in NUMBERS:
                self.assertEqual(plus(a, b), as_number(value(a) + value(b)))
                self.assertEqual(minus(a, b), as_number(value(a) - value(b)))
                self.assertEqual(times(a, b), as_number(value(a) * value(b)))

    def test_quotient(self):
        for a in NUMBERS:
            for b in NUMBERS:
                if b != (0, 1):
                    self.assertEqual(divided(a, b), as_number(value(a) / value(b)))

    def test_returned_numbers_can_be_longer(self):
        self.assertEqual(times((999, 1), (999, 1)), (998001, 1))
        self.assertEqual(plus((1, 999), (1, 998)), (1997, 997002))

    def test_total(self):
        self.assertEqual(total([]), (0, 1))
        self.assertEqual(total([(-2, 3)]), (-2, 3))
        self.assertEqual(total([(1, 2), (1, 3), (1, 6)]), (1, 1))
        self.assertEqual(total([(1, 2), (1, 2), (-1, 1)]), (0, 1))
        self.assertEqual(total(NUMBERS), as_number(sum(value(one) for one in NUMBERS)))

    def test_total_leaves_its_list(self):
        check_new(self, total, [(1, 2), (1, 3)])


if __name__ == "__main__":
    unittest.main()

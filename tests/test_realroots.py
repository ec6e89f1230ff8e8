import unittest
from fractions import Fraction

from known import SQUARE_FREE, key, keys_of, polynomial_of
from wheretrue.isolating import isolated
from wheretrue.realroots import Root, real_roots


def ends_of(span):
    low, high, scale = span
    return Fraction(low, scale), Fraction(high, scale)


class IsolatedTest(unittest.TestCase):
    def test_known_polynomials(self):
        for factors in SQUARE_FREE:
            places = keys_of(factors)
            spans = isolated(polynomial_of(factors))
            self.assertEqual(len(spans), len(places))
            ends = []
            for place, span in zip(places, spans):
                low, high = ends_of(span)
                if low == high:
                    self.assertEqual(key(low), place)
                else:
                    self.assertEqual([one for one in places if key(low) < one < key(high)], [place])
                ends += [low, high]
            self.assertEqual(ends, sorted(ends))


class RootTest(unittest.TestCase):
    def test_spans_have_no_roots_at_their_ends(self):
        for factors in SQUARE_FREE:
            places = keys_of(factors)
            for place, root in zip(places, real_roots(polynomial_of(factors))):
                for _ in range(6):
                    low, high = ends_of(root.span())
                    if low == high:
                        self.assertEqual(key(low), place)
                        break
                    self.assertTrue(key(low) < place < key(high))
                    self.assertFalse({key(low), key(high)} & set(places))
                    root.sharpen()
                    closer = ends_of(root.span())
                    self.assertTrue(low <= closer[0] <= closer[1] <= high)
                    self.assertLessEqual(2 * (closer[1] - closer[0]), high - low)

    def test_sharpening_is_quick(self):
        for p, place in [
            ([-2, 0, 1], 0), ([-2, 0, 1], 1), ([-1, 3], 0), ([-1, -1, 0, 0, 0, 0, 0, 1], 0), ([1, -3, 1], 1),
        ]:
            root = real_roots(p)[place]
            for _ in range(16):
                root.sharpen()
            low, high = ends_of(root.span())
            # By halves it would be 2 to the power 16.
            self.assertLess((high - low) * 2 ** 200, 1)

    def test_roots_that_are_found_exactly(self):
        for p, place, expected in [
            ([-1, 2], 0, Fraction(1, 2)), ([-5, 1], 0, Fraction(5)), ([0, 1], 0, Fraction(0)),
            ([10, -5, -2, 1], 1, Fraction(2)), ([-11, 8], 0, Fraction(11, 8)), ([-4, -1, 16, 4], 1, Fraction(-1, 2)),
            ([-1, 0, 1], 0, Fraction(-1)),
        ]:
            root = real_roots(p)[place]
            for _ in range(10):
                if root.low < root.high:
                    root.sharpen()
            self.assertEqual(ends_of(root.span()), (expected, expected))
            self.assertEqual(root.compared((expected.numerator, expected.denominator)), 0)
            self.assertEqual(root.floor(8), expected * 8)

    def test_a_span_with_another_root_at_its_end(self):
        # The roots are 0, 1 / 3 and 1; the third one is negative.
        for p in ([0, 1, -4, 3], [0, -2, 8, -6]):
            root = Root(p, (0, 1, 1))
            low, high = ends_of(root.span())
            self.assertTrue(0 < low < Fraction(1, 3) < high < 1)
            self.assertEqual((root.floor(1), root.floor(3), root.floor(10)), (0, 1, 3))

    def test_which_is_before(self):
        first, second = real_roots([-2, 0, 1])[1], real_roots([-1414213562373095048801688724210, 10 ** 30])[0]
        self.assertIs(first.is_before(second), True)
        self.assertIs(second.is_before(first), False)
        # Not much more is known of them than is needed.
        self.assertLess(first.scale, 10 ** 70)
        self.assertLess(second.scale, 10 ** 70)
        near = real_roots([-2, 0, 1])[1]
        for _ in range(50):
            self.assertIs(near.is_before(real_roots([-3, 1])[0]), True)
        self.assertLess(near.scale, 10 ** 6)


if __name__ == "__main__":
    unittest.main()

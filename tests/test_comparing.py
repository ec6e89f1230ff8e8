import copy
import random
import unittest
from fractions import Fraction

from helpers import as_number, check_new, lists_in, product_by_powers
from making import Maker
from searching import Surd, exact_point, truth_of
from wheretrue.comparing import follows, is_parting, parted, same
from wheretrue.formulas import check_formula, pushed
from wheretrue.numbers import is_number
from wheretrue.polynomials import plain, square_free
from wheretrue.roots import compare_root, count_roots, rational_roots
from wheretrue.where import where

BIG = 10 ** 40
TWO = [-2, 0, 1]
TRUE, FALSE = ("sign", [1], ">"), ("sign", [1], "<")
INVERSE = ("some", 1, [([[0, 1]], [-1], "=")])


def some_pairs(seed, many):
    """Pairs of formulas: independent ones, and ones that are alike or nearly so."""
    maker = Maker(seed)
    for k in range(many):
        first = maker.formula(maker.source.randint(1, 2), k % 2)
        second = maker.formula(maker.source.randint(1, 2), (k // 2) % 2)
        yield maker.source.choice([
            (first, second), (first, second), (first, ("and", first, second)), (("or", first, second), first),
            (first, pushed(first)), (first, ("or", first, ("sign", TWO, "="))), (first, ("not", first)),
            (first, ("and", first, ("sign", [-3, 0, 2], "!="))), (("and", second, first), ("and", first, second)),
        ])


def truth_pairs(first, second):
    """The truths of both formulas at numbers of all cells of both answers that have a known one."""
    for answer in (where(first), where(second)):
        for cell in range(2 * answer[0][1] + 1):
            t = exact_point(answer[0], cell)
            if t is not None:
                yield t, truth_of(first, t), truth_of(second, t)


class ComparingTest(unittest.TestCase):
    def check_pair(self, first, second, first_follows, second_follows):
        """Whether the first formula follows from the second one, and the second one from the first one."""
        self.assertIs(follows(first, second), second_follows, (first, second))
        self.assertIs(follows(second, first), first_follows, (first, second))
        self.assertIs(same(first, second), first_follows and second_follows, (first, second))
        self.assertIs(same(second, first), first_follows and second_follows, (first, second))
        self.check_parted(first, second, first_follows and second_follows)
        for function in (follows, same, parted):
            check_new(self, function, first, second)

    def check_parted(self, first, second, are_same):
        told = parted(first, second)
        if are_same:
            self.assertIsNone(told)
            return None
        self.assertIs(is_parting(first, second, told=told), True, (first, second, told))
        self.assertIs(is_parting(second, first, told=told), True)
        self.assertIs(is_parting(first, first, told=told), False)
        if told[0] == "number":
            self.assertIs(is_number(told[1]), True)
            t = Fraction(*told[1])
            self.assertNotEqual(truth_of(first, t), truth_of(second, t))
        else:
            _, polynomial, k = told
            self.assertEqual(plain(polynomial), polynomial)
            self.assertEqual(square_free(polynomial), polynomial)
            self.assertTrue(0 <= k < count_roots(polynomial))
            # A number would have been told if there were a rational parting value.
            self.assertFalse(any(compare_root(polynomial, k, x) == 0 for x in rational_roots(polynomial)))
            for t, one, other in truth_pairs(first, second):
                self.assertTrue(isinstance(t, Surd) or one == other)
        return told

    def test_sign_atoms(self):
        self.check_pair(("sign", TWO, "<"), ("sign", TWO, "<="), False, True)
        self.check_pair(("sign", TWO, "<"), ("sign", [-3, 0, 1], "<"), False, True)
        self.check_pair(("sign", TWO, "<"), ("sign", [0, 1], ">"), False, False)
        self.check_pair(("sign", TWO, "<"), ("sign", [2, 0, -1], ">"), True, True)
        self.check_pair(("sign", TWO, "="), ("sign", [4, 0, -4, 0, 1], "<="), True, True)
        self.check_pair(("sign", TWO, "!="), ("sign", [4, 0, -4, 0, 1], ">"), True, True)
        self.check_pair(("sign", [1, 0, 1], ">"), TRUE, True, True)
        self.check_pair(("sign", [1, 0, 1], "="), FALSE, True, True)
        self.check_pair(("sign", TWO, "="), ("not", ("sign", TWO, "!=")), True, True)

    def test_true_and_false(self):
        for formula in (("sign", TWO, "<"), INVERSE, ("and", INVERSE, ("sign", [0, 1], ">"))):
            self.check_pair(formula, TRUE, False, True)
            self.check_pair(FALSE, formula, False, True)
            self.check_pair(formula, ("not", formula), False, False)
            self.check_pair(formula, formula, True, True)
        self.check_pair(TRUE, FALSE, True, False)

    def test_blocks(self):
        self.check_pair(INVERSE, ("sign", [0, 1], "!="), True, True)
        self.check_pair(INVERSE, ("sign", [0, 1], ">"), True, False)
        between = ("some", 1, [([[1]], [0, -1], "<"), ([[-1]], [0, 0, 1], "<")])
        self.check_pair(between, ("sign", [0, -1, 1], "<"), True, True)
        self.check_pair(between, ("sign", [0, -1, 1], "<="), False, True)
        self.check_pair(between, ("some", 1, [([[1]], [0, -1], "<="), ([[-1]], [0, 0, 1], "<=")]), False, True)
        two = ("some", 2, [([[1], [1]], [0, -1], "="), ([[1], [-1]], [], "="), ([[-1], []], [1], "<=")])
        self.check_pair(two, ("sign", [-2, 1], ">="), True, True)
        self.check_pair(two, ("sign", [-2, 1], ">"), True, False)

    def test_parted_at_an_irrational_root_alone(self):
        for first, second in [
            (("sign", TWO, "<"), ("sign", TWO, "<=")), (("sign", TWO, "="), FALSE), (("sign", TWO, "!="), TRUE),
            (("sign", [-2, 0, 0, 1], ">"), ("sign", [-2, 0, 0, 1], ">=")),
            (INVERSE, ("and", INVERSE, ("sign", TWO, "!="))),
            (("and", ("sign", TWO, "="), ("sign", [0, 1], ">")), FALSE),
            (("some", 1, [([TWO], [1], "=")]), TRUE),
            # One of the roots of the polynomial is rational, and does not part them.
            (("and", ("sign", [2, -2, -1, 1], "="), ("sign", [-1, 1], "!=")), FALSE),
        ]:
            told = self.check_parted(first, second, False)
            self.assertEqual(told[0], "root")
            self.assertEqual(parted(second, first)[0], "root")
            check_new(self, parted, first, second)
            check_new(self, is_parting, first, second, told=told)

    def test_parted_at_a_rational_number_alone(self):
        for first, second, x in [
            (("sign", [-3, 2], "="), FALSE, (3, 2)), (INVERSE, TRUE, (0, 1)),
            (("sign", [2, -2, -1, 1], "="), ("sign", TWO, "="), (1, 1)),
            (("sign", [0, -1, 1], "<"), ("and", ("sign", [0, -1, 1], "<="), ("sign", [-1, 1], "!=")), (0, 1)),
            # Irrational roots part them as well.
            (("or", ("sign", TWO, "="), ("sign", [-50, 99], "=")), FALSE, (50, 99)),
            (("sign", [0, -2, 0, 1], "="), FALSE, (0, 1)),
        ]:
            self.assertEqual(self.check_parted(first, second, False), ("number", x))
            self.assertEqual(parted(second, first), ("number", x))

    def test_parted_on_a_stretch(self):
        for first, second in [
            (("sign", TWO, "<"), ("sign", [0, 1], "<")), (TRUE, FALSE), (("sign", TWO, "<"), ("sign", [-3, 0, 1], "<")),
            (("and", ("sign", TWO, ">"), ("sign", [-3, 2], "<")), ("sign", [3, 2], "<")),
            (("or", ("sign", [-50, 0, 99], "<"), ("sign", TWO, "=")), ("sign", TWO, "=")),
        ]:
            self.assertEqual(self.check_parted(first, second, False)[0], "number")

    def test_close_ends(self):
        # 99 divided by 70 is a little more than the root of 2.
        first = ("and", ("sign", [-99, 70], "<"), ("sign", [0, 1], ">"))
        second = ("and", ("sign", [-70, 0, 35], "<"), ("sign", [0, 1], ">"))
        self.check_pair(first, second, True, False)
        _, x = self.check_parted(first, second, False)
        self.assertTrue(1.41421 < Fraction(*x) < 1.41429)

    def test_at_random(self):
        seen = {}
        for first, second in some_pairs(100, 150):
            pairs = list(truth_pairs(first, second))
            one_follows, other_follows, are_same = follows(first, second), follows(second, first), same(first, second)
            self.assertIs(are_same, one_follows and other_follows)
            if one_follows:
                self.assertTrue(all(other or not one for _, one, other in pairs))
            if other_follows:
                self.assertTrue(all(one or not other for _, one, other in pairs))
            told = self.check_parted(first, second, are_same)
            key = (one_follows, other_follows, told and told[0])
            seen[key] = seen.get(key, 0) + 1
            self.assertIs(follows(("not", second), ("not", first)), one_follows)
        for one_follows in (True, False):
            for other_follows in (True, False):
                self.assertTrue(any(key[:2] == (one_follows, other_follows) for key in seen))
        self.assertGreater(sum(seen[key] for key in seen if key[2] == "root"), 5)

    def test_what_is_handed_in_is_not_kept(self):
        first, second = ("sign", [-2, 0, 1], "<"), ("sign", [-2, 0, 1], "<=")
        handed = copy.deepcopy((first, second))
        told = parted(*handed)
        expected = copy.deepcopy(told)
        for one in lists_in(handed):
            one.clear()
        self.assertEqual(told, expected)
        told[1].append(7)
        self.assertEqual(parted(first, second), expected)


class IsPartingTest(unittest.TestCase):
    FIRST, SECOND = ("sign", TWO, "<"), ("sign", TWO, "<=")

    def check_is(self, expected, first, second, told):
        self.assertIs(is_parting(first, second, told=told), expected, (first, second, told))
        self.assertIs(is_parting(second, first, told=told), expected, (first, second, told))
        check_new(self, is_parting, first, second, told=told)

    def test_numbers(self):
        first, second = ("sign", [-1, 1], "<"), ("sign", [0, 1], "<=")
        for x, expected in [((0, 1), False), ((1, BIG), True), ((1, 2), True), ((BIG - 1, BIG), True), ((1, 1), False),
                            ((-1, 1), False), ((BIG, 1), False)]:
            self.check_is(expected, first, second, ("number", x))
        self.check_is(True, INVERSE, TRUE, ("number", (0, 1)))
        self.check_is(False, INVERSE, TRUE, ("number", (1, BIG)))
        self.check_is(False, self.FIRST, self.SECOND, ("number", (7, 5)))

    def test_roots(self):
        for k in (0, 1):
            self.check_is(True, self.FIRST, self.SECOND, ("root", TWO, k))
            self.check_is(False, self.FIRST, self.SECOND, ("root", [-3, 0, 1], k))
            self.check_is(False, self.FIRST, self.FIRST, ("root", TWO, k))
        upper = ("and", self.SECOND, ("sign", [0, 1], ">"))
        self.check_is(False, upper, ("and", upper, self.FIRST), ("root", TWO, 0))
        self.check_is(True, upper, ("and", upper, self.FIRST), ("root", TWO, 1))
        # The same root of another polynomial.
        for k, expected in enumerate([False, True, True, False]):
            self.check_is(expected, self.FIRST, self.SECOND, ("root", [6, 0, -5, 0, 1], k))
        for k, expected in enumerate([True, False, True]):
            self.check_is(expected, self.FIRST, self.SECOND, ("root", [0, -2, 0, 1], k))
        # A rational root may be told so, too.
        self.check_is(True, INVERSE, TRUE, ("root", [0, 1], 0))
        self.check_is(False, INVERSE, TRUE, ("root", [-1, 1], 0))
        self.check_is(True, INVERSE, TRUE, ("root", [0, -2, 0, 1], 1))
        self.check_is(True, TRUE, FALSE, ("root", [-2, 0, 0, 1], 0))

    def test_a_block_at_a_root(self):
        block = ("some", 2, [([TWO, [0, 1]], [1], "<"), ([TWO, [0, -1]], [1], "<="), ([[-1], []], [], "<=")])
        for k in (0, 1):
            self.check_is(True, block, ("sign", [-4, 0, 1], "<"), ("root", TWO, k))
            self.check_is(False, block, ("sign", TWO, "<"), ("root", TWO, k))
        self.check_is(False, block, FALSE, ("root", [-3, 0, 1], 0))
        self.check_is(True, block, FALSE, ("root", [-3, 0, 2], 0))

    def test_not_plain(self):
        for polynomial in ([-4, 0, 2], [2, 0, -1], [6, 0, -3], [-2 * BIG, 0, BIG]):
            for k in (0, 1):
                self.check_is(False, self.FIRST, self.SECOND, ("root", polynomial, k))
        self.check_is(False, INVERSE, TRUE, ("root", [0, -1], 0))
        self.check_is(False, INVERSE, TRUE, ("root", [0, 5], 0))

    def test_not_square_free(self):
        for polynomial in ([4, 0, -4, 0, 1], product_by_powers(TWO, [1, -2, 1]), product_by_powers(TWO, [0, 0, 1])):
            for k in range(4):
                self.check_is(False, self.FIRST, self.SECOND, ("root", polynomial, k))
        self.check_is(False, INVERSE, TRUE, ("root", [0, 0, 1], 0))

    def test_the_place(self):
        for k in (-3, -2, -1, 2, 3, BIG, -BIG):
            self.check_is(False, self.FIRST, self.SECOND, ("root", TWO, k))
            self.check_is(False, TRUE, FALSE, ("root", TWO, k))
        for k in (-1, 0, 1):
            self.check_is(False, TRUE, FALSE, ("root", [1, 0, 1], k))
        for k in (-1, 1):
            self.check_is(False, TRUE, FALSE, ("root", [0, 1], k))

    def test_degree_0(self):
        for polynomial in ([1], [-1], [7], [BIG]):
            for k in (-1, 0, 1):
                self.check_is(False, TRUE, FALSE, ("root", polynomial, k))

    def test_great_degrees(self):
        source = random.Random(101)
        long = product_by_powers(TWO, [source.randint(-9, 9) for _ in range(60)] + [1])
        self.assertEqual(square_free(long), long)
        found = [is_parting(self.FIRST, self.SECOND, told=("root", long, k)) for k in range(count_roots(long))]
        self.assertEqual(found.count(True), 2)
        for degree in (100, 200, 399):
            power = [-2] + [0] * (degree - 1) + [1]
            last = 1 if degree % 2 == 0 else 0
            self.check_is(True, ("sign", [-1, 1], ">"), FALSE, ("root", power, last))
            self.check_is(False, ("sign", [-1, 1], ">"), TRUE, ("root", power, last))
            self.check_is(False, ("sign", [-1, 1], ">"), FALSE, ("root", power, last + 1))
            self.check_is(degree % 2 == 0, ("sign", [1, 1], "<"), FALSE, ("root", power, 0))
        many = [1]
        for k in range(-20, 21):
            many = product_by_powers(many, [-k, 1])
        for k in range(41):
            self.check_is(k == 20, INVERSE, TRUE, ("root", many, k))
        self.check_is(False, INVERSE, TRUE, ("root", many, 41))

    def test_at_random(self):
        maker = Maker(102)
        for first, second in some_pairs(103, 60):
            for x in (Fraction(0), Fraction(-3, 7)):
                expected = truth_of(first, x) != truth_of(second, x)
                self.check_is(expected, first, second, ("number", as_number(x)))
                self.check_is(expected, first, second, ("root", [-x.numerator, x.denominator], 0))
            d = maker.source.choice([2, 3, 5])
            for k in (0, 1):
                t = Surd(0, 2 * k - 1, d)
                self.check_is(truth_of(first, t) != truth_of(second, t), first, second, ("root", [-d, 0, 1], k))

    def test_the_greatest_formulas(self):
        maker = Maker(104)
        first, second = [maker.formula(6, 3, many=2, rows=5, bound=20) for _ in range(2)]
        check_formula(first)
        told = parted(first, second)
        self.assertIs(same(first, second), told is None)
        if told:
            self.assertIs(is_parting(first, second, told=told), True)
        self.assertIs(same(first, pushed(first)), True)
        self.assertIsNone(parted(("not", ("not", first)), first))


if __name__ == "__main__":
    unittest.main()

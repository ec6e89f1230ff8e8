import unittest
from fractions import Fraction

from deciding_cells import are_against_by_words, are_witnesses_by_words, cells_of
from helpers import as_number, check_new, product_by_powers
from making import Maker
from searching import polynomial_value
from wheretrue.cells import division_of
from wheretrue.deciding import block_proofs
from wheretrue.fractions import from_number, fraction, is_fraction, value_of
from wheretrue.witnesses import are_against, are_witnesses, row_sum

BIG = 10 ** 40
ZERO = ([], [1])
ONE = ([1], [1])
T = ([0, 1], [1])
LINE = ([], 0)
AT_0 = ([[0, 1]], 1)
TWO = [-2, 0, 1]
AT_ROOTS = ([TWO], 2)


def block(many, *rows):
    return ("some", many, list(rows))


class RowSumTest(unittest.TestCase):
    def check_sum(self, row, fractions, expected):
        self.assertEqual(row_sum(row, fractions), expected, (row, fractions))
        check_new(self, row_sum, row, fractions)

    def test_worked_out(self):
        self.check_sum(([[0, 1]], [-1], "="), [([1], [0, 1])], ZERO)
        self.check_sum(([[0, 1]], [-1], "<"), [ONE], ([-1, 1], [1]))
        self.check_sum(([[2]], [], "<"), [([1], [2])], ONE)
        self.check_sum(([[2]], [0, 4], "<="), [([1], [6, 3])], ([2, 24, 12], [6, 3]))
        self.check_sum(([[]], [0, 4], "<="), [([1], [6, 3])], ([0, 4], [1]))
        self.check_sum(([[1], [1]], [], "<"), [([1], [0, 1]), ([-1], [0, 1])], ZERO)
        self.check_sum(([[1], [0, 1]], [5], "<"), [([1], [0, 1]), ([-1], [0, 0, 1])], ([5], [1]))
        self.check_sum(([[1], [1]], [1], "="), [([1], [1, 1]), ([1], [-1, 1])], ([-1, 2, 1], [-1, 0, 1]))
        self.check_sum(([[BIG], [1]], [BIG], "="), [([1], [2 * BIG]), T], ([2 * BIG + 1, 2], [2]))

    def test_at_random(self):
        maker = Maker(50)
        for _ in range(150):
            many = maker.source.randint(1, 2)
            row = maker.row(many, 5)
            fractions = [fraction(maker.polynomial(3, 5), maker.polynomial(3, 5) or [1]) for _ in range(many)]
            found = row_sum(row, fractions)
            self.assertIs(is_fraction(found), True)
            for t in (Fraction(-5, 3), Fraction(7, 11), Fraction(13)):
                values = [value_of(f, as_number(t)) for f in fractions]
                if None not in values:
                    total = sum([polynomial_value(a, t) * Fraction(*x) for a, x in zip(row[0], values)],
                                polynomial_value(row[1], t))
                    self.assertEqual(value_of(found, as_number(t)), as_number(total))


class AreWitnessesTest(unittest.TestCase):
    def check_witnesses(self, asked, division, fractions, expected):
        """The answers on all cells of the division."""
        self.assertEqual(len(expected), 2 * division[1] + 1)
        for cell, one in enumerate(expected):
            found = are_witnesses(asked, division, fractions, cell=cell)
            self.assertIs(found, bool(one), (asked, division, fractions, cell))
        check_new(self, are_witnesses, asked, division, fractions, cell=0)

    def test_right_ones(self):
        inverse = block(1, ([[0, 1]], [-1], "="))
        self.check_witnesses(inverse, AT_0, [([1], [0, 1])], [1, 0, 1])
        self.check_witnesses(inverse, AT_0, [ONE], [0, 0, 0])
        below = block(1, ([[1]], [0, -1], "<"))
        self.check_witnesses(below, LINE, [([-1, 1], [1])], [1])
        self.check_witnesses(below, LINE, [([-1, 0, -1], [1])], [1])
        self.check_witnesses(below, LINE, [T], [0])
        self.check_witnesses(below, LINE, [ZERO], [0])
        self.check_witnesses(below, AT_0, [ZERO], [0, 0, 1])
        self.check_witnesses(block(1, ([[1]], [0, -1], "<=")), AT_0, [ZERO], [0, 1, 1])
        self.check_witnesses(block(1, ([[1]], [0, -1], "<=")), AT_0, [T], [1, 1, 1])

    def test_two_numbers(self):
        asked = block(2, ([[1], [1]], [0, -1], "="), ([[1], [-1]], [-1], "="), ([[], [-1]], [], "<="))
        half = ([1, 1], [2]), ([-1, 1], [2])
        self.check_witnesses(asked, ([[-1, 1]], 1), list(half), [0, 1, 1])
        self.check_witnesses(asked, ([[-1, 1]], 1), [half[1], half[0]], [0, 0, 0])
        # The pole of one of them falls away in each sum.
        asked = block(2, ([[0, 1], []], [-1], "<="), ([[], [0, 1]], [-1], "<="))
        self.check_witnesses(asked, AT_0, [([1], [0, 1])] * 2, [1, 0, 1])
        asked = block(2, ([[1], [1]], [], "<="))
        self.check_witnesses(asked, AT_0, [([1], [0, 1]), ([-1], [0, 1])], [1, 0, 1])

    def test_a_pole_in_the_cell(self):
        asked = block(1, ([[0, 1]], [-1], "="))
        for division, expected in [(LINE, [0]), (([[-1, 1]], 1), [0, 1, 1]), (([[1, 1]], 1), [1, 1, 0]),
                                   (([[-1, 1], [1, 1]], 2), [1, 1, 0, 1, 1])]:
            self.check_witnesses(asked, division, [([1], [0, 1])], expected)
        # One pole is enough, also of a number that stands in no row.
        asked = block(2, ([[], [1]], [-1], "<="))
        for fractions in ([([1], [0, 1]), ONE], [ONE, ([1], [0, 1])], [([1], [0, 1])] * 2):
            self.check_witnesses(asked, LINE, fractions, [0])
        self.check_witnesses(asked, LINE, [ONE, ONE], [1])
        self.check_witnesses(asked, AT_0, [([1], [0, 1]), ONE], [1, 0, 1])
        # Also where nothing else is wrong.
        self.check_witnesses(block(1, ([[]], [-1], "<")), LINE, [([1], [0, 1])], [0])
        self.check_witnesses(block(1, ([[]], [-1], "<")), LINE, [([1], [0, 0, 1])], [0])
        self.check_witnesses(block(1, ([[]], [-1], "<")), LINE, [([1], [1, 0, 1])], [1])
        self.check_witnesses(block(1, ([[]], [-1], "<")), AT_ROOTS, [([1], TWO)], [1, 0, 1, 0, 1])
        self.check_witnesses(block(1, ([[]], [-1], "<")), ([[0, 1]], 1), [([1], TWO)], [0, 1, 0])

    def test_a_sum_without_a_sign(self):
        # The sum is t * t - 2, whose roots are not among those of the division.
        asked = block(1, ([[1]], [-2], "<"))
        square = [([0, 0, 1], [1])]
        self.check_witnesses(asked, LINE, square, [0])
        self.check_witnesses(asked, AT_0, square, [0, 1, 0])
        self.check_witnesses(asked, ([[-1, 1], [1, 1]], 2), square, [0, 1, 1, 1, 0])
        self.check_witnesses(asked, AT_ROOTS, square, [0, 0, 1, 0, 0])
        # At most 0 in the whole cell, but not less than 0, nor 0 alone.
        asked = block(1, ([[1]], [], "<="))
        self.check_witnesses(asked, LINE, [([0, 0, -1], [1])], [0])
        self.check_witnesses(asked, AT_0, [([0, 0, -1], [1])], [1, 1, 1])
        self.check_witnesses(asked, AT_ROOTS, [([-4, 0, 4, 0, -1], [1])], [1, 1, 1, 1, 1])
        self.check_witnesses(asked, AT_0, [([-4, 0, 4, 0, -1], [1])], [0, 1, 0])

    def test_a_sum_with_a_wrong_sign(self):
        for sign, expected in [("<", [1, 0, 0]), ("<=", [1, 1, 0]), ("=", [0, 1, 0])]:
            self.check_witnesses(block(1, ([[1]], [], sign)), AT_0, [T], expected)
            self.check_witnesses(block(1, ([[]], [-1], "<"), ([[1]], [], sign)), AT_0, [T], expected)
            self.check_witnesses(block(1, ([[1]], [], sign), ([[]], [1], "<")), AT_0, [T], [0, 0, 0])

    def test_too_few_or_too_many(self):
        one = block(1, ([[1]], [-1], "<="))
        two = block(2, ([[1], [1]], [-2], "<="))
        for many in range(5):
            self.check_witnesses(one, LINE, [ONE] * many, [many == 1])
            self.check_witnesses(two, LINE, [ONE] * many, [many == 2])

    def test_cells_that_are_irrational_roots(self):
        # At the roots of 2 the number t does, elsewhere it does not.
        asked = block(1, ([[0, 1]], [-2], "="))
        self.check_witnesses(asked, AT_ROOTS, [T], [0, 1, 0, 1, 0])
        self.check_witnesses(asked, ([[6, 0, -5, 0, 1]], 4), [T], [0, 0, 0, 1, 0, 1, 0, 0, 0])
        asked = block(2, ([[0, 1], [-1]], [], "="), ([[1], [0, 1]], [-6], "<="), ([[-1], [-1]], [1], "<"))
        self.check_witnesses(asked, AT_ROOTS, [T, ([2], [1])], [0, 0, 0, 1, 0])
        # Nearly the root of 2.
        close = 14142135623730950488016887242096980785696
        asked = block(1, ([[1]], [0, -1], "<"))
        self.check_witnesses(asked, AT_ROOTS, [from_number((close, BIG))], [0, 0, 0, 1, 1])
        self.check_witnesses(asked, AT_ROOTS, [from_number((close + 1, BIG))], [0, 0, 0, 0, 0])

    def test_roots_and_poles_beside_the_ends(self):
        close = 14142135623730950488016887242096980785696
        asked = block(1, ([[1]], [], "<"))
        division = ([[-close - 1, BIG], [-close, BIG]], 2)
        self.check_witnesses(asked, division, [(TWO, [1])], [0, 1, 0, 0, 0])
        self.check_witnesses(asked, division, [([-1], TWO)], [0, 0, 0, 1, 1])
        self.check_witnesses(asked, division, [([-1], [2, 0, 1])], [1, 1, 1, 1, 1])

    def test_at_random(self):
        maker = Maker(51)
        right = 0
        for _ in range(250):
            asked = maker.block(bound=3)
            division, cells = some_cells(maker)
            pool = [maker.polynomial(2, 3) for _ in range(2)]
            fractions = [fraction(maker.polynomial(2, 4), maker.source.choice([*pool, [1]]) or [1])
                         for _ in range(maker.source.choice([asked[1]] * 8 + [0, 1, 2, 3]))]
            for k, cell in enumerate(cells):
                expected = are_witnesses_by_words(asked, fractions, cell)
                found = are_witnesses(asked, division, fractions, cell=k)
                self.assertIs(found, expected, (asked, division, fractions, k))
                right += expected
        self.assertGreater(right, 50)

    def test_changed_ones(self):
        """Right witnesses of the program's own on other divisions, as they are and a little changed."""
        maker = Maker(52)
        seen = {True: 0, False: 0}
        for _ in range(60):
            asked = maker.block(bound=4)
            division, cells = some_cells(maker)
            for proof in block_proofs(asked)[1]:
                if not proof.is_true:
                    continue
                x, y, z = proof.polynomials()
                fractions = [fraction(x, z), fraction(y, z)][:asked[1]]
                changed = [fraction(product_by_powers(x, [0, 1]), z), fraction(y, z)][:asked[1]]
                for k, cell in enumerate(cells):
                    for some in (fractions, changed):
                        expected = are_witnesses_by_words(asked, some, cell)
                        self.assertIs(are_witnesses(asked, division, some, cell=k), expected)
                        seen[expected] += 1
        self.assertGreater(min(seen.values()), 100)


def some_cells(maker):
    """A division with rational roots, and its cells by their ends."""
    numbers = {Fraction(maker.source.randint(-4, 4), maker.source.randint(1, 3))
               for _ in range(maker.source.randint(0, 3))}
    return division_of([[-x.numerator, x.denominator] for x in numbers]), cells_of(numbers)


class AreAgainstTest(unittest.TestCase):
    def check_against(self, asked, division, polynomials, expected):
        """The answers on all cells of the division."""
        self.assertEqual(len(expected), 2 * division[1] + 1)
        for cell, one in enumerate(expected):
            found = are_against(asked, division, polynomials, cell=cell)
            self.assertIs(found, bool(one), (asked, division, polynomials, cell))
        check_new(self, are_against, asked, division, polynomials, cell=0)

    def test_right_ones(self):
        # x is less than 0 and greater than 1.
        asked = block(1, ([[1]], [], "<"), ([[-1]], [1], "<"))
        for factor in ([1], [7], [1, 0, 1], [BIG]):
            self.check_against(asked, LINE, [factor, factor], [1])
        self.check_against(asked, LINE, [[], []], [0])
        self.check_against(asked, LINE, [[-1], [-1]], [0])
        self.check_against(asked, LINE, [[1], [2]], [0])
        self.check_against(asked, AT_0, [[0, 1], [0, 1]], [0, 0, 1])
        self.check_against(asked, AT_0, [[0, 0, 1], [0, 0, 1]], [1, 0, 1])
        self.check_against(block(1, ([[0, 1]], [-1], "=")), AT_0, [[-1]], [0, 1, 0])

    def test_two_numbers(self):
        asked = block(2, ([[1], [0, 1]], [-1], "<="), ([[-1], []], [1], "<="), ([[], [-1]], [0, 1], "<="))
        # The sum of the rows, times 1, 1 and t, is t * t: not less than 0, but at 0.
        self.check_against(asked, AT_0, [[1], [1], [0, 1]], [0, 0, 1])
        self.check_against(asked, AT_0, [[1], [1], []], [0, 0, 0])
        self.check_against(block(2, ([[1], [1]], [], "<"), ([[-1], [-1]], [], "<=")), LINE, [[1], [1]], [1])
        self.check_against(block(2, ([[1], [1]], [], "<"), ([[-1], []], [], "<=")), LINE, [[1], [1]], [0])

    def test_a_multiplier_without_a_sign(self):
        asked = block(1, ([[1]], [], "="), ([[-1]], [1], "="))
        self.check_against(asked, LINE, [[1], [1]], [1])
        self.check_against(asked, LINE, [[0, 1], [0, 1]], [0])
        self.check_against(asked, LINE, [[0, 0, 1], [0, 0, 1]], [0])
        self.check_against(asked, ([[-1, 1]], 1), [[0, 0, 1], [0, 0, 1]], [0, 1, 1])
        # The multiplier of a row that is nothing but 0 needs a sign, too.
        asked = block(1, ([[]], [1], "<"), ([[]], [], "="), ([[]], [], "<="))
        self.check_against(asked, LINE, [[1], [], []], [1])
        self.check_against(asked, LINE, [[1], [0, 1], []], [0])
        self.check_against(asked, AT_0, [[1], [0, 1], []], [1, 1, 1])
        self.check_against(asked, AT_0, [[1], [], [0, 1]], [0, 1, 1])
        self.check_against(asked, AT_0, [[1], TWO, []], [0, 1, 0])
        self.check_against(asked, AT_ROOTS, [[1], TWO, []], [1, 1, 1, 1, 1])
        self.check_against(asked, AT_ROOTS, [[1], [], TWO], [1, 1, 0, 1, 1])

    def test_a_multiplier_less_than_0(self):
        for sign, expected in [("<", 0), ("<=", 0), ("=", 1)]:
            asked = block(1, ([[1]], [], sign), ([[1]], [-1], "<"))
            # x is 0, and less than 1: nothing is against that; x is at least 1 in the other one.
            self.check_against(asked, LINE, [[-1], [1]], [0])
            asked = block(1, ([[-1]], [2], sign), ([[-1]], [3], "<"))
            self.check_against(asked, LINE, [[-1], [1]], [expected])
            self.check_against(asked, LINE, [[1], [-1]], [0])
        asked = block(1, ([[1]], [-1], "="), ([[1]], [-2], "="))
        self.check_against(asked, LINE, [[1], [-1]], [1])
        self.check_against(asked, LINE, [[-1], [1]], [0])

    def test_coefficients_that_do_not_vanish(self):
        asked = block(2, ([[1], [1]], [], "<="), ([[-1], [1]], [1], "<="), ([[], [-1]], [1], "<="))
        self.check_against(asked, LINE, [[1], [1], [2]], [1])
        self.check_against(asked, LINE, [[1], [1], [1]], [0])
        self.check_against(asked, LINE, [[1], [], [1]], [0])
        self.check_against(asked, LINE, [[], [], [1]], [0])
        asked = block(1, ([[0, 1]], [1], "<="))
        self.check_against(asked, AT_0, [[1]], [0, 1, 0])
        self.check_against(asked, LINE, [[1]], [0])
        asked = block(1, ([TWO], [1], "<="))
        self.check_against(asked, AT_0, [[1]], [0, 0, 0])
        self.check_against(asked, AT_ROOTS, [[1]], [0, 1, 0, 1, 0])

    def test_a_constant_0(self):
        for first in ("<", "<=", "="):
            for second in ("<", "<=", "="):
                asked = block(1, ([[1]], [0, -1], first), ([[-1]], [0, 1], second))
                self.check_against(asked, LINE, [[1], [1]], ["<" in (first, second)])
        # The multiplier of the row with "<" has to be greater than 0.
        asked = block(1, ([[]], [], "<="), ([[]], [], "<"))
        self.check_against(asked, LINE, [[1], []], [0])
        self.check_against(asked, LINE, [[], [1]], [1])
        self.check_against(asked, AT_0, [[1], [0, 1]], [0, 0, 1])
        self.check_against(asked, AT_0, [[1], [0, 0, 1]], [1, 0, 1])

    def test_a_constant_with_a_wrong_sign_or_without_one(self):
        asked = block(1, ([[]], [0, 1], "<"))
        self.check_against(asked, AT_0, [[1]], [0, 1, 1])
        self.check_against(asked, LINE, [[1]], [0])
        self.check_against(asked, ([[1, 1]], 1), [[1]], [0, 0, 0])
        self.check_against(asked, ([[-1, 1]], 1), [[1]], [0, 1, 1])
        asked = block(1, ([[]], TWO, "<="))
        self.check_against(asked, LINE, [[1]], [0])
        self.check_against(asked, AT_ROOTS, [[1]], [1, 0, 0, 0, 1])
        # Nowhere less than 0, but 0 at some numbers of the cell.
        self.check_against(block(1, ([[]], [0, 0, 1], "<")), LINE, [[1]], [0])
        self.check_against(block(1, ([[]], [0, 0, 1], "<")), AT_0, [[1]], [1, 1, 1])

    def test_too_few_or_too_many(self):
        asked = block(1, ([[1]], [], "<"), ([[-1]], [1], "<"))
        for polynomials in ([], [[1]], [[1], [1], [1]], [[1], [1], []], [[], [1], [1]]):
            self.check_against(asked, LINE, polynomials, [0])
        self.check_against(block(1, ([[]], [1], "<")), LINE, [[1]], [1])
        self.check_against(block(1, ([[]], [1], "<")), LINE, [[1], []], [0])
        self.check_against(block(1, ([[]], [1], "<")), LINE, [], [0])

    def test_coefficients_that_vanish_at_an_irrational_root_alone(self):
        # At the roots of 2, and nowhere else, t times the first row is twice the second one.
        asked = block(1, ([[0, 1]], [-1], "="), ([[1]], [-1], "="))
        self.check_against(asked, AT_ROOTS, [[0, 1], [-2]], [0, 1, 0, 1, 0])
        self.check_against(asked, ([[6, 0, -5, 0, 1]], 4), [[0, 1], [-2]], [0, 0, 0, 1, 0, 1, 0, 0, 0])
        self.check_against(asked, AT_ROOTS, [[0, -1], [2]], [0, 0, 0, 0, 0])
        asked = block(2, ([TWO, [4, 0, -4, 0, 1]], [1], "<"))
        self.check_against(asked, AT_ROOTS, [[1]], [0, 1, 0, 1, 0])
        # The constant vanishes there alone, too.
        asked = block(1, ([[]], TWO, "<"), ([[]], [-1], "<="))
        self.check_against(asked, AT_ROOTS, [[1], []], [1, 1, 0, 1, 1])
        asked = block(1, ([[]], TWO, "<="), ([[]], [-1], "<="))
        self.check_against(asked, AT_ROOTS, [[1], []], [1, 0, 0, 0, 1])

    def test_roots_beside_the_ends(self):
        close = 14142135623730950488016887242096980785696
        asked = block(1, ([[]], [1], "<="))
        division = ([[-close - 1, BIG], [-close, BIG]], 2)
        self.check_against(asked, division, [TWO], [0, 0, 0, 1, 1])
        self.check_against(asked, ([[-close, BIG]], 1), [[2, 0, -1]], [0, 1, 0])
        self.check_against(asked, division, [[2, 0, 1]], [1, 1, 1, 1, 1])

    def test_at_random(self):
        maker = Maker(53)
        right = 0
        for _ in range(400):
            asked = maker.block(bound=2)
            division, cells = some_cells(maker)
            many = maker.source.choice([len(asked[2])] * 9 + [0, 1, 6])
            pool = [[], [], [1], [1], [-1], [0, 1], maker.polynomial(2, 3)]
            polynomials = maker.source.choices(pool, k=many)
            for k, cell in enumerate(cells):
                expected = are_against_by_words(asked, polynomials, cell)
                found = are_against(asked, division, polynomials, cell=k)
                self.assertIs(found, expected, (asked, division, polynomials, k))
                right += expected
        self.assertGreater(right, 30)

    def test_changed_ones(self):
        """Right multipliers of the program's own on other divisions, as they are and a little changed."""
        maker = Maker(54)
        seen = {True: 0, False: 0}
        for _ in range(120):
            asked = maker.block(bound=4)
            division, cells = some_cells(maker)
            for proof in block_proofs(asked)[1]:
                if proof.is_true:
                    continue
                multipliers = proof.polynomials()
                changed = [product_by_powers(multipliers[0], [1, 0, 2]), *multipliers[1:]]
                turned = [product_by_powers(a, [-1, 2]) for a in multipliers]
                for k, cell in enumerate(cells):
                    for some in (multipliers, changed, turned):
                        expected = are_against_by_words(asked, some, cell)
                        self.assertIs(are_against(asked, division, some, cell=k), expected)
                        seen[expected] += 1
        self.assertGreater(min(seen.values()), 100)


if __name__ == "__main__":
    unittest.main()

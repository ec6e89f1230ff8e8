import unittest
from fractions import Fraction

from helpers import as_number, check_new, product_by_powers, sum_by_powers, value
from making import ROW_SIGNS, Maker
from searching import COMPARED, fulfilled, solution_of, values_of
from wheretrue.asking import block_at, fits, fulfilled_at, numbers_at, signs_at, taken_out

BIG = 10 ** 40


def made_rows(maker, many, count, bound=4):
    return [maker.row(many, bound) for _ in range(count)]


class FitsTest(unittest.TestCase):
    def test_every_sign(self):
        for sign, compared in COMPARED.items():
            for one in (-1, 0, 1):
                self.assertIs(fits(sign, one), compared(one), (sign, one))

    def test_worked_out(self):
        self.assertEqual([fits(sign, -1) for sign in ("<", "<=", "=", "!=", ">=", ">")],
                         [True, True, False, True, False, False])
        self.assertEqual([fits(sign, 0) for sign in ("<", "<=", "=", "!=", ">=", ">")],
                         [False, True, True, False, True, False])
        self.assertEqual([fits(sign, 1) for sign in ("<", "<=", "=", "!=", ">=", ">")],
                         [False, False, False, True, True, True])


class FulfilledAtTest(unittest.TestCase):
    def check_fulfilled(self, expected, rows, numbers, t):
        self.assertIs(fulfilled_at(rows, numbers, t), expected, (rows, numbers, t))
        check_new(self, fulfilled_at, rows, numbers, t)

    def test_no_numbers(self):
        for t, expected in [((1, 1), [True, True, False]), ((2, 1), [False, True, True]),
                            ((3, 1), [False, False, False])]:
            for sign, one in zip(ROW_SIGNS, expected):
                self.check_fulfilled(one, [([], [-2, 1], sign)], [], t)
        self.check_fulfilled(True, [], [], (7, 3))

    def test_one_number(self):
        # t * x - 1 at the edge, below and above it.
        for x, expected in [((1, 2), [False, True, True]), ((2, 5), [True, True, False]), ((3, 5), [False] * 3)]:
            for sign, one in zip(ROW_SIGNS, expected):
                self.check_fulfilled(one, [([[0, 1]], [-1], sign)], [x], (2, 1))

    def test_two_numbers(self):
        rows = [([[0, 1], [-1]], [0, 0, 1], "<="), ([[1], []], [-5], "<"), ([[1], [1]], [-7], "=")]
        self.check_fulfilled(True, rows, [(1, 1), (6, 1)], (2, 1))
        self.check_fulfilled(False, rows, [(5, 1), (2, 1)], (-20, 1))
        self.check_fulfilled(True, rows, [(49, 10), (21, 10)], (-20, 10))
        self.check_fulfilled(False, rows, [(1, 1), (5, 1)], (2, 1))
        self.check_fulfilled(False, rows, [(4, 1), (3, 1)], (2, 1))
        # Exactly at the edge of the first row.
        self.check_fulfilled(True, rows, [(1, 1), (6, 1)], (2, 1))
        self.check_fulfilled(True, rows[:1], [(3, 1), (10, 1)], (2, 1))
        self.check_fulfilled(False, [([[0, 1], [-1]], [0, 0, 1], "<")], [(3, 1), (10, 1)], (2, 1))

    def test_no_rows(self):
        self.check_fulfilled(True, [], [(1, 2), (3, 4)], (1, 1))

    def test_many_figures(self):
        row = ([[0, BIG], [1]], [-1], "<=")
        self.check_fulfilled(True, [row], [(1, BIG), (0, 1)], (1, 1))
        self.check_fulfilled(False, [row], [(1, BIG), (1, BIG ** 2)], (1, 1))
        self.check_fulfilled(True, [row], [(1, BIG), (-1, BIG ** 2)], (1, 1))
        self.check_fulfilled(False, [row], [(BIG + 1, BIG ** 2), (0, 1)], (BIG, BIG - 1))

    def test_at_random(self):
        maker = Maker(1)
        for _ in range(300):
            many = maker.source.randint(0, 3)
            rows = made_rows(maker, many, maker.source.randint(0, 3), 3)
            numbers = [Fraction(maker.source.randint(-2, 2), maker.source.randint(1, 2)) for _ in range(many)]
            t = Fraction(maker.source.randint(-3, 3), maker.source.randint(1, 3))
            self.assertIs(fulfilled_at(rows, [as_number(x) for x in numbers], as_number(t)),
                          fulfilled(values_of(rows, t), numbers))


def combined(row, factor, other, other_factor, k, sign):
    """The row times the factor, less the other one times the other factor, by point 30."""
    polynomials = []
    for a, b in zip([*row[0], row[1]], [*other[0], other[1]]):
        opposite = product_by_powers(b, [-c for c in other_factor])
        polynomials.append(sum_by_powers(product_by_powers(a, factor), opposite))
    del polynomials[k]
    whole = [c for a in polynomials for c in a]
    divisors = [d for d in range(1, max([abs(c) for c in whole], default=0) + 1) if all(c % d == 0 for c in whole)]
    if divisors:
        polynomials = [[c // divisors[-1] for c in a] for a in polynomials]
    return (polynomials[:-1], polynomials[-1], sign)


def taken_out_by_words(rows, k, signs):
    """What point 30 says, word by word."""
    kept = {place: ([a for j, a in enumerate(rows[place][0]) if j != k], rows[place][1], rows[place][2])
            for place, sign in enumerate(signs) if sign == 0}
    used = [place for place, sign in enumerate(signs) if sign != 0 and rows[place][2] == "="]
    if used:
        e = rows[used[0]]
        s = signs[used[0]]
        found = []
        for place, row in enumerate(rows):
            if place in kept:
                found.append(kept[place])
            elif place != used[0]:
                found.append(combined(row, [c * s for c in e[0][k]], e, [c * s for c in row[0][k]], k, row[2]))
        return found
    found = list(kept.values())
    for i, row in enumerate(rows):
        for j, other in enumerate(rows):
            if signs[i] == 1 and signs[j] == -1:
                sign = "<" if row[2] == "<" or other[2] == "<" else "<="
                found.append(combined(other, row[0][k], row, other[0][k], k, sign))
    return found


class TakenOutTest(unittest.TestCase):
    def check_taken_out(self, rows, k, signs, expected):
        self.assertEqual(taken_out(rows, k, signs=signs), expected, (rows, k, signs))
        check_new(self, taken_out, rows, k, signs=signs)

    def test_no_rows(self):
        self.check_taken_out([], 0, [], [])
        self.check_taken_out([], 3, [], [])

    def test_told_signs_that_are_0(self):
        rows = [([[], [4]], [2, 6], "<"), ([[0, 3], [0, 6]], [3], "="), ([[], []], [], "<=")]
        self.check_taken_out(rows, 0, [0, 0, 0],
                             [([[4]], [2, 6], "<"), ([[0, 6]], [3], "="), ([[]], [], "<=")])
        self.check_taken_out(rows, 1, [0, 0, 0],
                             [([[]], [2, 6], "<"), ([[0, 3]], [3], "="), ([[]], [], "<=")])

    def test_an_equation_is_used_up(self):
        rows = [([[0, 1]], [-1], "<="), ([[2]], [0, 3], "="), ([[-1]], [5], "<")]
        # (t * 2 * 1) less of the equation t: -2 - 3 t t; then (5 * 2) less (3 t * -1).
        self.check_taken_out(rows, 0, [1, 1, -1], [([], [-2, 0, -3], "<="), ([], [10, 3], "<")])
        # The told sign of the equation turns all signs.
        self.check_taken_out(rows, 0, [1, -1, -1], [([], [2, 0, 3], "<="), ([], [-10, -3], "<")])
        # The told signs of the others do not matter, but for being 0.
        self.check_taken_out(rows, 0, [-1, 1, 1], [([], [-2, 0, -3], "<="), ([], [10, 3], "<")])
        self.check_taken_out(rows, 0, [0, 1, 1], [([], [-1], "<="), ([], [10, 3], "<")])
        self.check_taken_out(rows, 0, [0, 1, 0], [([], [-1], "<="), ([], [5], "<")])

    def test_an_equation_whose_coefficient_is_less_than_0(self):
        rows = [([[-2]], [0, 3], "="), ([[0, 5]], [1], "<"), ([[0, -5]], [1], "=")]
        # With s = -1: (1 * -2 * -1) less (3 t * 5 t * -1).
        self.check_taken_out(rows, 0, [-1, 1, -1], [([], [2, 0, 15], "<"), ([], [2, 0, -15], "=")])

    def test_the_first_equation_with_a_told_sign_counts(self):
        rows = [([[]], [7], "="), ([[3]], [1], "<"), ([[0, 1]], [2], "="), ([[1]], [0, 4], "=")]
        self.check_taken_out(rows, 0, [0, 1, 1, 1],
                             [([], [7], "="), ([], [-6, 1], "<"), ([], [-1, 0, 2], "=")])
        self.check_taken_out(rows, 0, [0, 1, 0, 1],
                             [([], [7], "="), ([], [1, -12], "<"), ([], [2], "=")])
        self.check_taken_out(rows, 0, [0, 1, -1, 1],
                             [([], [7], "="), ([], [6, -1], "<"), ([], [1, 0, -2], "=")])
        self.check_taken_out(rows[2:3], 0, [1], [])

    def test_pairs(self):
        rows = [([[0, 1]], [-1], "<="), ([[-1]], [0, 0, 1], "<")]
        self.check_taken_out(rows, 0, [1, -1], [([], [-1, 0, 0, 1], "<")])
        # Told the other way round, the rows change places.
        self.check_taken_out(rows, 0, [-1, 1], [([], [1, 0, 0, -1], "<")])

    def test_the_order_of_new_rows(self):
        rows = [
            ([[1]], [10], "<="), ([[]], [77], "<"), ([[-1]], [20], "<="), ([[2]], [30], "<"), ([[-3]], [40], "<"),
            ([[]], [88], "="), ([[5]], [51], "<="),
        ]
        self.check_taken_out(rows, 0, [1, 0, -1, 1, -1, 0, 1], [
            ([], [77], "<"), ([], [88], "="),
            ([], [1], "<="), ([], [1], "<"), ([], [1], "<"), ([], [1], "<"),
            ([], [1], "<="), ([], [1], "<"),
        ])
        rows = [([[1], [1]], [10], "<="), ([[-1], [1]], [20], "<="), ([[1], [7]], [31], "<"), ([[-1], []], [43], "<=")]
        self.check_taken_out(rows, 0, [1, -1, 1, -1], [
            ([[1]], [15], "<="), ([[1]], [53], "<="), ([[8]], [51], "<"), ([[7]], [74], "<"),
        ])

    def test_bounds_on_one_side_alone(self):
        rows = [([[2], [1]], [1], "<="), ([[], [3]], [6, 9], "<"), ([[0, 1], []], [1], "<")]
        self.check_taken_out(rows, 0, [1, 0, 1], [([[3]], [6, 9], "<")])
        self.check_taken_out(rows, 0, [-1, 0, -1], [([[3]], [6, 9], "<")])
        self.check_taken_out(rows[:1], 0, [1], [])
        self.check_taken_out(rows[:1], 0, [-1], [])

    def test_division_in_new_rows_alone(self):
        rows = [([[], [6]], [12], "<="), ([[4], [2]], [6], "<"), ([[-4], [6]], [2, 4], "<=")]
        self.check_taken_out(rows, 0, [0, 1, -1], [([[6]], [12], "<="), ([[2]], [2, 1], "<")])
        # A row whose told sign is 0 is not divided beside an equation either.
        rows[1] = ([[4], [2]], [6], "=")
        self.check_taken_out(rows, 0, [0, 1, -1], [([[6]], [12], "<="), ([[2]], [2, 1], "<=")])
        # A common divisor of the constant alone, or of the coefficients alone, divides nothing.
        self.check_taken_out([([[1], [2]], [1], "<"), ([[-1], [4]], [1, 3], "<")], 0, [1, -1],
                             [([[6]], [2, 3], "<")])
        self.check_taken_out([([[1], [2]], [1], "<"), ([[-1], [5]], [1, 4], "<")], 0, [1, -1],
                             [([[7]], [2, 4], "<")])

    def test_new_rows_that_are_all_0(self):
        self.check_taken_out([([[1], [1]], [2], "<"), ([[-1], [-1]], [-2], "<=")], 0, [1, -1], [([[]], [], "<")])
        self.check_taken_out([([[1], [1]], [2], "="), ([[3], [3]], [6], "=")], 0, [1, 1], [([[]], [], "=")])
        self.check_taken_out([([[0, 1]], [], "<="), ([[-1]], [], "<=")], 0, [1, -1], [([], [], "<=")])

    def test_more_numbers(self):
        rows = [([[1], [0, 1], [2]], [3], "<="), ([[-1], [-1], [0, -1]], [5], "<")]
        self.check_taken_out(rows, 0, [1, -1], [([[-1, 1], [2, -1]], [8], "<")])
        self.check_taken_out(rows, 1, [1, -1], [([[1, -1], [2, 0, -1]], [3, 5], "<")])
        self.check_taken_out(rows, 2, [1, -1], [([[-2, 1], [-2, 0, 1]], [10, 3], "<")])

    def test_at_random_by_words(self):
        maker = Maker(2)
        for _ in range(400):
            many = maker.source.randint(1, 4)
            rows = made_rows(maker, many, maker.source.randint(0, 6))
            k = maker.source.randrange(many)
            signs = [maker.source.choice([-1, 0, 1]) for _ in rows]
            self.assertEqual(taken_out(rows, k, signs=signs), taken_out_by_words(rows, k, signs))
        check_new(self, taken_out, rows, k, signs=signs)

    def test_many_figures(self):
        rows = [([[BIG, BIG]], [0, 7 * BIG], "<="), ([[0, -3]], [BIG], "<=")]
        self.check_taken_out(rows, 0, [1, -1], [([], [BIG, BIG, 21], "<=")])

    def test_point_31(self):
        maker = Maker(3)
        outcomes = set()
        for _ in range(300):
            many = maker.source.randint(1, 2)
            rows = made_rows(maker, many, maker.source.randint(0, 5), 3)
            t = Fraction(maker.source.randint(-4, 4), maker.source.randint(1, 2))
            k = maker.source.randrange(many)
            left = taken_out(rows, k, signs=signs_at(rows, k, as_number(t)))
            others = [Fraction(maker.source.randint(-4, 4), 2) for _ in range(many - 1)]
            inner = []
            for coefficients, constant, sign in values_of(rows, t):
                x_k = coefficients.pop(k)
                inner.append(([x_k], sum([c * x for c, x in zip(coefficients, others)], constant), sign))
            expected = solution_of(1, inner) is not None
            self.assertIs(fulfilled_at(left, [as_number(x) for x in others], as_number(t)), expected)
            outcomes.add(expected)
        self.assertEqual(outcomes, {True, False})


class SignsAtTest(unittest.TestCase):
    def test_worked_out(self):
        rows = [([[0, 1], [5]], [1], "<"), ([[], [-1, 1]], [1], "="), ([[-2], [0, 0, -1]], [], "<=")]
        for k, t, expected in [(0, (3, 1), [1, 0, -1]), (0, (0, 1), [0, 0, -1]), (0, (-1, 7), [-1, 0, -1]),
                               (1, (1, 1), [1, 0, -1]), (1, (0, 1), [1, -1, 0]), (1, (BIG + 1, BIG), [1, 1, -1]),
                               (1, (BIG - 1, BIG), [1, -1, -1])]:
            self.assertEqual(signs_at(rows, k, t), expected)
            check_new(self, signs_at, rows, k, t)
        self.assertEqual(signs_at([], 0, (1, 1)), [])


class BlockAtTest(unittest.TestCase):
    """block_at and numbers_at together: what one of them tells is held against the other, too."""

    def check_block(self, expected, many, rows, t):
        self.assertIs(block_at(many, rows, t), expected, (many, rows, t))
        numbers = numbers_at(many, rows, t)
        self.assertIs(numbers is not None, expected, (many, rows, t))
        if expected:
            self.assertEqual(len(numbers), many)
            self.assertTrue(fulfilled_at(rows, numbers, t), (many, rows, t, numbers))
            self.assertTrue(fulfilled(values_of(rows, value(t)), [value(x) for x in numbers]))
        check_new(self, block_at, many, rows, t)
        check_new(self, numbers_at, many, rows, t)

    def test_one_number_with_an_equation(self):
        rows = [([[0, 1]], [-1], "=")]
        self.check_block(False, 1, rows, (0, 1))
        self.check_block(True, 1, rows, (1, BIG))
        self.assertEqual(numbers_at(1, rows, (2, 3)), [(3, 2)])
        self.assertEqual(numbers_at(1, rows, (-BIG, 1)), [(-1, BIG)])
        self.check_block(True, 1, [([[]], [0, 1], "=")], (0, 1))
        self.check_block(False, 1, [([[]], [0, 1], "=")], (1, 1))

    def test_one_number_without_bounds(self):
        for sign, expected in [("<", [True, False, False]), ("<=", [True, True, False]), ("=", [False, True, False])]:
            for t, one in zip([(-1, 1), (0, 1), (1, 1)], expected):
                self.check_block(one, 1, [([[]], [0, 1], sign)], t)

    def test_one_number_with_one_bound(self):
        for sign in ("<", "<="):
            for factor in (1, -1):
                self.check_block(True, 1, [([[factor]], [0, 5], sign)], (3, 1))
                self.check_block(True, 1, [([[factor]], [0, 5], sign), ([[2 * factor]], [1], "<")], (3, 1))

    def test_one_number_between_bounds(self):
        # x between 0 and t.
        for first, second in [("<", "<"), ("<", "<="), ("<=", "<"), ("<=", "<=")]:
            rows = [([[1]], [0, -1], first), ([[-1]], [], second)]
            self.check_block(True, 1, rows, (1, BIG))
            self.check_block(first == second == "<=", 1, rows, (0, 1))
            self.check_block(False, 1, rows, (-1, BIG))
        self.assertEqual(numbers_at(1, [([[1]], [-7], "<="), ([[-2]], [14], "<=")], (0, 1)), [(7, 1)])

    def test_one_number_with_five_rows(self):
        rows = [([[1]], [-9], "<"), ([[-1]], [3], "<="), ([[2]], [0, -1], "<="), ([[0, -1]], [12], "<"),
                ([[]], [-1], "<")]
        # x is from 3 on, at most half of t, and more than 12 divided by t.
        self.check_block(False, 1, rows, (5, 1))
        self.check_block(True, 1, rows, (6, 1))
        self.check_block(False, 1, rows, (4, 1))
        self.check_block(False, 1, rows, (0, 1))
        self.check_block(False, 1, rows, (-6, 1))
        self.check_block(True, 1, rows, (100, 1))

    def test_equations_that_agree_or_not(self):
        rows = [([[1]], [0, -1], "="), ([[0, 1]], [-4], "=")]
        self.check_block(True, 1, rows, (2, 1))
        self.check_block(True, 1, rows, (-2, 1))
        self.check_block(False, 1, rows, (3, 1))
        self.check_block(True, 1, rows + [([[1]], [], "<")], (-2, 1))
        self.check_block(False, 1, rows + [([[1]], [], "<")], (2, 1))

    def test_two_numbers_with_one_solution(self):
        # The triangle x, y at least 0, x + y at most t.
        for sign in ("<", "<="):
            rows = [([[-1], []], [], "<="), ([[], [-1]], [], "<="), ([[1], [1]], [0, -1], sign)]
            self.check_block(True, 2, rows, (1, 9))
            self.check_block(sign == "<=", 2, rows, (0, 1))
            self.check_block(False, 2, rows, (-1, BIG))
        self.assertEqual(numbers_at(2, rows, (0, 1)), [(0, 1), (0, 1)])
        self.assertEqual(numbers_at(2, [([[0, 1], [1]], [-3], "="), ([[1], [-1]], [1], "=")], (1, 1)), [(1, 1), (2, 1)])

    def test_two_numbers_without_bounds(self):
        self.check_block(True, 2, [([[], []], [], "=")], (5, 1))
        self.check_block(False, 2, [([[], []], [], "<")], (5, 1))
        self.check_block(True, 2, [([[1], [1]], [0, 1], "<")], (5, 1))
        self.check_block(True, 2, [([[1], [1]], [0, 1], "<"), ([[1], [-1]], [], "<=")], (5, 1))

    def test_coefficients_that_are_0_at_the_number(self):
        rows = [([[-2, 1], [0, 1]], [-1], "<="), ([[-2, 1], [-2, 0, 1]], [3], "<")]
        self.check_block(True, 2, rows, (2, 1))
        rows = [([[-2, 1], [4, 0, -1]], [-1, 1], "<=")]
        self.check_block(False, 2, rows, (2, 1))
        self.check_block(True, 2, rows, (-2, 1))
        self.check_block(True, 2, rows, (BIG + 1, BIG))
        self.check_block(True, 2, [([[-2, 1], [4, 0, -1]], [-3, 1], "<")], (2, 1))
        self.check_block(False, 2, [([[-2, 1], []], [1], "="), ([[1], [1]], [], "<")], (2, 1))
        self.check_block(True, 2, [([[-2, 1], []], [1], "="), ([[1], [1]], [], "<")], (3, 1))

    def test_many_figures(self):
        rows = [([[0, 1], [1]], [-1], "<"), ([[0, -1], [-1]], [1, -1], "<=")]
        self.check_block(True, 2, rows, (1, BIG))
        self.check_block(False, 2, rows, (-1, BIG))
        self.check_block(False, 2, rows, (0, 1))
        self.check_block(True, 2, [([[BIG], [-1]], [0, BIG ** 2], "="), ([[1], []], [-BIG], "<=")], (-BIG, BIG - 1))

    def test_at_random(self):
        maker = Maker(4)
        seen = {}
        for _ in range(700):
            _, many, rows = maker.block()
            t = Fraction(maker.source.choice([0, 0, 1, -1, 2, -3, 5]), maker.source.choice([1, 1, 2, 3]))
            expected = solution_of(many, values_of(rows, t)) is not None
            self.check_block(expected, many, rows, as_number(t))
            seen[many, len(rows), expected] = True
        # Each number of numbers and of rows, with and without a solution.
        self.assertEqual(len(seen), 20)

    def test_at_random_with_equal_bounds(self):
        maker = Maker(5)
        for _ in range(200):
            many = maker.source.randint(1, 2)
            rows = made_rows(maker, many, 2, 4)
            # The opposite of a row leaves its edge alone, or nothing.
            for coefficients, constant, _ in rows[:maker.source.randint(1, 2)]:
                opposite = ([[-c for c in a] for a in coefficients], [-c for c in constant])
                rows.append((*opposite, maker.source.choice(["<", "<="])))
            t = Fraction(maker.source.randint(-2, 2))
            self.check_block(solution_of(many, values_of(rows, t)) is not None, many, rows, as_number(t))


if __name__ == "__main__":
    unittest.main()

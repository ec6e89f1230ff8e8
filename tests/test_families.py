import itertools
import unittest
from fractions import Fraction

from deciding_cells import cells_of, polynomial_sign
from helpers import as_number, check_new, product_by_powers, sum_by_powers
from making import Maker
from searching import Surd, exact_point, polynomial_value
from wheretrue.cells import division_of, put_in, root_of
from wheretrue.errors import BadNumber, BadSize, NotFine
from wheretrue.families import check_family, kind_at, kinds_of, minors, solve, solves

BIG = 10 ** 40
TWO = [-2, 0, 1]
# The sum of the numbers is t, and t times the first one is the second one.
LINES = (2, [([[1], [1]], [0, -1]), ([[0, 1], [-1]], [])])


def some_families(seed, count):
    maker = Maker(seed)
    for _ in range(count):
        many = maker.source.randint(1, 3)
        bound = maker.source.choice([2, 2, 3, 20])
        rows = [maker.row(many, bound)[:2] for _ in range(maker.source.randint(0, 3))]
        if len(rows) > 1 and maker.source.random() < 0.3:
            # A row that comes of the others in part lets the rank fall.
            rows[-1] = ([list(a) for a in rows[0][0]], maker.source.choice([rows[0][1], maker.polynomial(2, bound)]))
        yield many, rows


def rank_of(lines):
    """The rank of a table of Fractions or Surds, by elimination."""
    lines = [list(line) for line in lines]
    rank = 0
    for column in range(len(lines[0]) if lines else 0):
        pivots = [line for line in lines[rank:] if line[column] != 0]
        if pivots:
            lines.remove(pivots[0])
            lines.insert(rank, pivots[0])
            for k in range(rank + 1, len(lines)):
                factor = lines[k][column] / pivots[0][column]
                lines[k] = [x - factor * y for x, y in zip(lines[k], pivots[0])]
            rank += 1
    return rank


def kind_by_elimination(family, t):
    many, rows = family
    table = [[polynomial_value(a, t) for a in [*coefficients, constant]] for coefficients, constant in rows]
    rank, lesser = rank_of(table), rank_of([line[:-1] for line in table])
    if rank > lesser:
        return "none"
    return "one" if rank == many else "many"


def determinant_by_permutations(square):
    found = []
    for places in itertools.permutations(range(len(square))):
        turns = sum(x > y for k, x in enumerate(places) for y in places[k + 1:])
        term = [-1 if turns % 2 else 1]
        for line, place in zip(square, places):
            term = product_by_powers(term, line[place])
        found = sum_by_powers(found, term)
    return found


def minors_by_permutations(table, size):
    columns = range(len(table[0]) if table else 0)
    return [determinant_by_permutations([[table[i][j] for j in chosen] for i in lines])
            for lines in itertools.combinations(range(len(table)), size)
            for chosen in itertools.combinations(columns, size)]


class CheckFamilyTest(unittest.TestCase):
    def check_right(self, family):
        self.assertIsNone(check_family(family), family)
        check_new(self, check_family, family)

    def check_wrong(self, family, error):
        with self.assertRaises(error) as raised:
            check_family(family)
        self.assertIs(type(raised.exception), error, family)

    def test_right(self):
        self.check_right(LINES)
        for many in (1, 2, 3):
            for rows in range(4):
                self.check_right((many, [([[1]] * many, []) for _ in range(rows)]))
                self.check_right((many, [([[19, -19, 19]] * many, [-19, 0, -19]) for _ in range(rows)]))
                self.check_right((many, [([[]] * many, []) for _ in range(rows)]))

    def test_the_number(self):
        for many in (0, -1, 4, 10, True, False, None, "1", (1, 1), [1], BIG):
            self.check_wrong((many, []), BadSize)
            self.check_wrong((many, [([[20]], [])]), BadSize)
        self.check_wrong((True, [([[1]], [])]), BadSize)

    def test_too_many_rows(self):
        for many in (1, 2, 3):
            self.check_wrong((many, [([[1]] * many, [])] * 4), BadSize)
            # This is due before what is wrong with the rows.
            self.check_wrong((many, [([[20]] * many, [0])] * 4), BadSize)

    def test_the_number_of_coefficients(self):
        for many in (1, 2, 3):
            for other in (0, 1, 2, 3, 4):
                if other != many:
                    self.check_wrong((many, [([[1]] * other, [])]), BadSize)
                    self.check_wrong((many, [([[1]] * many, []), ([[1]] * other, [])]), BadSize)
                    # Before what is wrong with the row, but behind what is wrong with rows before it.
                    self.check_wrong((many, [([[20]] * other, [20])]), BadSize)
                    self.check_wrong((many, [([[1]] * many, [20]), ([[1]] * other, [])]), BadNumber)

    def test_polynomials(self):
        for a, error in [([1, 2, 3, 4], BadSize), ([0, 0, 0, 0], BadSize), ([20], BadNumber), ([-20], BadNumber),
                         ([1, 20, 1], BadNumber), ([0], BadNumber), ([1, 0], BadNumber), ([True], BadNumber),
                         ([False, 1], BadNumber), ([None], BadNumber), (["1"], BadNumber), ([1, 2, 0], BadNumber)]:
            for many in (1, 2, 3):
                for place in range(many + 1):
                    polynomials = [[1] for _ in range(many + 1)]
                    polynomials[place] = a
                    self.check_wrong((many, [(polynomials[:-1], polynomials[-1])]), error)
                    right = ([[1]] * many, [1])
                    self.check_wrong((many, [right, right, (polynomials[:-1], polynomials[-1])]), error)

    def test_the_first_error_counts(self):
        self.check_wrong((2, [([[20], [1, 2, 3, 4]], [1, 2, 3, 4])]), BadNumber)
        self.check_wrong((2, [([[1, 2, 3, 4], [20]], [20])]), BadSize)
        self.check_wrong((2, [([[1], [1]], [0]), ([[1], [1, 2, 3, 4]], [])]), BadNumber)
        self.check_wrong((2, [([[1], [1]], [1, 2, 3, 4]), ([[1], [20]], [])]), BadSize)
        self.check_wrong((1, [([[1]], [20]), ([], [])]), BadNumber)


class MinorsTest(unittest.TestCase):
    def check_minors(self, table, size, expected):
        self.assertEqual(minors(table, size=size), expected, (table, size))
        check_new(self, minors, table, size=size)

    def test_the_example_of_the_document(self):
        self.check_minors([[[0, 1], [1], [2]], [[1], [0, 1], [3]]], 2, [[-1, 0, 1], [-2, 3], [3, -2]])

    def test_one_line(self):
        self.check_minors([[[1], [0, 1], [], [5, 0, 1]]], 1, [[1], [0, 1], [], [5, 0, 1]])
        self.check_minors([[[7]]], 1, [[7]])
        self.check_minors([[[7]]], 2, [])

    def test_the_order(self):
        table = [[[1], [2], [3]], [[4], [5], [6]], [[7], [8], [10]]]
        self.check_minors(table, 1, [[1], [2], [3], [4], [5], [6], [7], [8], [10]])
        # Lines 0 and 1 first, then 0 and 2, then 1 and 2; the columns in the same way.
        self.check_minors(table, 2, [[-3], [-6], [-3], [-6], [-11], [-4], [-3], [-2], [2]])
        self.check_minors(table, 3, [[-3]])
        self.check_minors([line + [[0, 1]] for line in table], 3, [[-3], [], [0, 3], [0, 3]])

    def test_sizes_that_are_too_great(self):
        for lines in range(4):
            for columns in range(1, 5):
                table = [[[1, k, j] for j in range(1, columns + 1)] for k in range(lines)]
                for size in range(min(lines, columns) + 1, 7):
                    self.check_minors(table, size, [])
        self.check_minors([], 1, [])

    def test_at_random(self):
        maker = Maker(80)
        for lines in range(1, 4):
            for columns in range(1, 5):
                for size in range(1, 5):
                    for bound in (2, 20):
                        table = [[maker.polynomial(2, bound) for _ in range(columns)] for _ in range(lines)]
                        self.check_minors(table, size, minors_by_permutations(table, size))

    def test_greater_tables(self):
        maker = Maker(81)
        table = [[maker.polynomial(3, BIG) for _ in range(6)] for _ in range(5)]
        for size in range(1, 7):
            self.check_minors(table, size, minors_by_permutations(table, size))


class KindAtTest(unittest.TestCase):
    def check_kind(self, family, x, expected):
        self.assertEqual(kind_at(family, x), expected, (family, x))
        check_new(self, kind_at, family, x)

    def test_no_rows(self):
        for many in (1, 2, 3):
            self.check_kind((many, []), (3, 7), "many")

    def test_one_number(self):
        inverse = (1, [([[0, 1]], [-1])])
        self.check_kind(inverse, (0, 1), "none")
        self.check_kind(inverse, (1, BIG), "one")
        self.check_kind((1, [([[0, 1]], [0, 0, 1])]), (0, 1), "many")
        self.check_kind((1, [([[0, 1]], [0, 0, 1])]), (2, 1), "one")
        agreeing = (1, [([[1]], [0, -1]), ([[0, 1]], [-4])])
        for t, expected in [((2, 1), "one"), ((-2, 1), "one"), ((1, 1), "none"), ((0, 1), "none")]:
            self.check_kind(agreeing, t, expected)
        self.check_kind((1, [([[]], [0, 1])]), (0, 1), "many")
        self.check_kind((1, [([[]], [0, 1])]), (1, 1), "none")

    def test_two_numbers(self):
        self.check_kind(LINES, (-1, 1), "none")
        self.check_kind(LINES, (0, 1), "one")
        self.check_kind((2, [([[1], [0, 1]], [-1]), ([[0, 1], [1]], [-1])]), (1, 1), "many")
        self.check_kind((2, [([[1], [0, 1]], [-1]), ([[0, 1], [1]], [-1])]), (-1, 1), "none")
        self.check_kind((2, [([[1], [0, 1]], [-1]), ([[0, 1], [1]], [-1])]), (5, 2), "one")
        self.check_kind((2, [([[1], [1]], [-1])]), (5, 2), "many")

    def test_where_the_rank_falls(self):
        # Its determinant is (t - 1) (t - 1) (t + 2); at 1 all rows are alike.
        rows = [([[0, 1], [1], [1]], [-1]), ([[1], [0, 1], [1]], [-1]), ([[1], [1], [0, 1]], [-1])]
        for t, expected in [((1, 1), "many"), ((-2, 1), "none"), ((0, 1), "one"), ((BIG + 1, BIG), "one")]:
            self.check_kind((3, rows), t, expected)
        rows[2] = (rows[2][0], [-1, 0, 1])
        for t, expected in [((1, 1), "none"), ((-2, 1), "none"), ((0, 1), "one")]:
            self.check_kind((3, rows), t, expected)

    def test_at_random(self):
        seen = {}
        for family in some_families(82, 300):
            for t in (Fraction(0), Fraction(1), Fraction(-1), Fraction(5, 3)):
                expected = kind_by_elimination(family, t)
                self.assertEqual(kind_at(family, as_number(t)), expected, (family, t))
                seen[family[0], expected] = seen.get((family[0], expected), 0) + 1
        self.assertEqual(len(seen), 9)


class KindsOfTest(unittest.TestCase):
    def check_kinds(self, family, division, kinds):
        self.assertEqual(kinds_of(family), (division, kinds))
        check_new(self, kinds_of, family)

    def test_worked_out(self):
        self.check_kinds((2, []), ([], 0), ["many"])
        self.check_kinds((1, [([[0, 1]], [-1])]), ([[0, 1]], 1), ["one", "none", "one"])
        self.check_kinds((1, [([TWO], [])]), ([TWO], 2), ["one", "many", "one", "many", "one"])
        self.check_kinds((1, [([TWO], [1])]), ([TWO], 2), ["one", "none", "one", "none", "one"])
        self.check_kinds((1, [([[0, 1]], [-2]), ([[1]], [0, -1])]), ([[0, 1], TWO], 3),
                         ["none", "one", "none", "none", "none", "one", "none"])
        # The minors of size 1 have roots, too: the division is told by all minors.
        self.check_kinds((2, [([[0, 1], [1]], [3, 1])]), ([[0, 1], [3, 1]], 2), ["many"] * 5)
        self.check_kinds((1, [([[1]], [0, -1, 1])]), ([[0, -1, 1]], 2), ["one"] * 5)

    def test_the_division(self):
        for family in some_families(83, 60):
            table = [[*coefficients, constant] for coefficients, constant in family[1]]
            polynomials = [a for size in (1, 2, 3) for a in minors_by_permutations(table, size)]
            self.assertEqual(kinds_of(family)[0], division_of(polynomials))

    def test_at_random(self):
        seen = {}
        for family in some_families(84, 250):
            division, kinds = kinds_of(family)
            self.assertEqual(len(kinds), 2 * division[1] + 1)
            for cell, kind in enumerate(kinds):
                t = exact_point(division, cell)
                if t is not None:
                    self.assertEqual(kind_by_elimination(family, t), kind, (family, division, cell))
                    seen[isinstance(t, Surd), kind] = True
                if isinstance(t, Fraction):
                    self.assertEqual(kind_at(family, as_number(t)), kind)
        self.assertEqual(len(seen), 6)

    def test_new_lists(self):
        for family in some_families(85, 30):
            check_new(self, kinds_of, family)


class SolveTest(unittest.TestCase):
    def check_solve(self, family, division):
        """On all cells; the kinds are those of the cells of the family in which they lie."""
        for cell in range(2 * division[1] + 1):
            fractions = solve(family, division, cell)
            t = exact_point(division, cell)
            if t is not None:
                self.assertEqual(fractions is None, kind_by_elimination(family, t) == "none", (family, division, cell))
            if fractions is not None:
                self.assertEqual(len(fractions[0]), family[0])
                self.assertIs(solves(family, division, cell, fractions), True, (family, division, cell, fractions))
                self.check_solution(family, t, fractions)
                if cell < 4:
                    self.check_wrong(family, division, cell, fractions)
        check_new(self, solve, family, division, 0)

    def check_solution(self, family, t, fractions):
        if t is not None:
            below = polynomial_value(fractions[1], t)
            self.assertTrue(below != 0)
            for coefficients, constant in family[1]:
                total = polynomial_value(constant, t)
                for a, numerator in zip(coefficients, fractions[0]):
                    total = total + polynomial_value(a, t) * polynomial_value(numerator, t) / below
                self.assertTrue(total == 0)

    def check_wrong(self, family, division, cell, fractions):
        numerators, denominator = fractions
        for wrong in [(numerators[:-1], denominator), (numerators + [[]], denominator), (numerators, [])]:
            self.assertIs(solves(family, division, cell, wrong), False)

    def test_worked_out(self):
        inverse = (1, [([[0, 1]], [-1])])
        self.check_solve(inverse, ([[0, 1]], 1))
        self.assertIsNone(solve(inverse, ([[0, 1]], 1), 1))
        self.check_solve(inverse, ([[0, -2, 0, 1]], 3))
        self.check_solve((3, []), ([], 0))
        self.check_solve((3, []), ([TWO], 2))
        self.check_solve(LINES, kinds_of(LINES)[0])
        self.check_solve((1, [([[0, 1]], [-2]), ([[1]], [0, -1])]), ([[0, 1], TWO], 3))
        family = (2, [([TWO, [0, 1]], [1]), ([[1], [1]], [1, 1])])
        self.check_solve(family, kinds_of(family)[0])

    def test_at_irrational_roots_alone(self):
        family = (1, [([[0, 1]], [-2]), ([[1]], [0, -1])])
        division = ([[0, 1], TWO], 3)
        self.assertEqual([solve(family, division, cell) is not None for cell in range(7)],
                         [False, True, False, False, False, True, False])
        family = (2, [([TWO, []], []), ([[], TWO], [])])
        self.check_solve(family, ([TWO], 2))

    def test_at_random(self):
        for family in some_families(86, 100):
            self.check_solve(family, kinds_of(family)[0])

    def test_finer_divisions(self):
        for family in some_families(87, 30):
            division = kinds_of(family)[0]
            self.check_solve(family, put_in(division, [[0, 1], [-3, 0, 1]]))
            self.check_solve(family, put_in(division, [[-2, 1, 1, 1]]))

    def test_not_fine(self):
        for family, division in [
            ((1, [([[0, 1]], [-1])]), ([], 0)), ((1, [([[0, 1]], [-1])]), ([[-1, 1]], 1)),
            ((1, [([TWO], [])]), ([[-3, 0, 1]], 2)), ((1, [([[1]], [0, 1])]), ([], 0)),
            ((2, [([[0, 1], [1]], [3, 1])]), ([[0, 1]], 1)), ((2, [([[0, 1], [1]], [3, 1])]), ([[3, 1]], 1)),
            # Where there is no solution, too.
            ((1, [([[]], [0, 1])]), ([], 0)), ((1, [([[]], [1]), ([[]], [0, 1])]), ([], 0)),
        ]:
            for cell in range(2 * division[1] + 1):
                with self.assertRaises(NotFine):
                    solve(family, division, cell)

    def test_the_greatest_families(self):
        maker = Maker(88)
        for _ in range(2):
            family = (3, [maker.row(3, 20)[:2] for _ in range(3)])
            division, _ = kinds_of(family)
            self.check_solve(family, division)


class SolvesTest(unittest.TestCase):
    INVERSE = (1, [([[0, 1]], [-1])])

    def check_solves(self, family, division, fractions, expected):
        """The answers on all cells of the division."""
        self.assertEqual(len(expected), 2 * division[1] + 1)
        for cell, one in enumerate(expected):
            self.assertIs(solves(family, division, cell, fractions), bool(one), (family, division, fractions, cell))
        check_new(self, solves, family, division, 0, fractions)

    def test_right_ones(self):
        for factor in ([1], [-3], [1, 0, 1], [BIG]):
            fractions = ([factor], product_by_powers(factor, [0, 1]))
            self.check_solves(self.INVERSE, ([[0, 1]], 1), fractions, [1, 0, 1])
            self.check_solves(self.INVERSE, ([[0, 1], TWO], 3), fractions, [1, 1, 1, 0, 1, 1, 1])
        self.check_solves(LINES, ([[1, 1]], 1), ([[0, 1], [0, 0, 1]], [1, 1]), [1, 0, 1])
        self.check_solves(LINES, ([[1, 1]], 1), ([[0, 0, 1], [0, 1]], [1, 1]), [0, 0, 0])
        self.check_solves((2, []), ([], 0), ([[0, 1], [5]], [1]), [1])

    def test_a_denominator_that_is_0(self):
        # Somewhere in the cell, or everywhere.
        self.check_solves(self.INVERSE, ([], 0), ([[1]], [0, 1]), [0])
        self.check_solves(self.INVERSE, ([[-1, 1]], 1), ([[1]], [0, 1]), [0, 1, 1])
        self.check_solves(self.INVERSE, ([[0, 1]], 1), ([[]], []), [0, 0, 0])
        self.check_solves(self.INVERSE, ([[0, 1]], 1), ([[-1, 1]], [0, -1, 1]), [1, 0, 0])
        self.check_solves(self.INVERSE, ([[-1, 1], [0, 1]], 2), ([[-1, 1]], [0, -1, 1]), [1, 0, 1, 0, 1])
        self.check_solves((1, []), ([], 0), ([[1]], [0, 0, 1]), [0])
        self.check_solves((1, []), ([TWO], 2), ([[1]], TWO), [1, 0, 1, 0, 1])
        self.check_solves((1, []), ([[0, 1]], 1), ([[1]], TWO), [0, 1, 0])
        self.check_solves((1, []), ([], 0), ([[]], []), [0])

    def test_too_few_or_too_many(self):
        for many in range(1, 4):
            for other in range(6):
                family = (many, [([[1]] * many, [])])
                self.check_solves(family, ([], 0), ([[]] * other, [1]), [many == other])
                self.check_solves((many, []), ([], 0), ([[]] * other, [1]), [many == other])

    def test_some_numbers_of_the_cell_alone(self):
        # The number t fulfills t * x = 2 at the roots of 2.
        family = (1, [([[0, 1]], [-2])])
        self.check_solves(family, ([TWO], 2), ([[0, 1]], [1]), [0, 1, 0, 1, 0])
        self.check_solves(family, ([], 0), ([[0, 1]], [1]), [0])
        self.check_solves(family, ([[6, 0, -5, 0, 1]], 4), ([[0, 1]], [1]), [0, 0, 0, 1, 0, 1, 0, 0, 0])
        self.check_solves(family, ([[-1, 1]], 1), ([[2]], [1]), [0, 1, 0])
        self.check_solves(family, ([[-2, 1], [-1, 1]], 2), ([[3, -1]], [1]), [0, 1, 0, 1, 0])
        both = (1, [([[0, 1]], [-2]), ([[1]], [0, -1])])
        self.check_solves(both, ([TWO], 2), ([[0, 1]], [1]), [0, 1, 0, 1, 0])
        self.check_solves(both, ([TWO], 2), ([[2]], [0, 1]), [0, 1, 0, 1, 0])
        self.check_solves(both, ([[-2, 1]], 1), ([[2]], [0, 1]), [0, 0, 0])

    def test_many_figures(self):
        close = 14142135623730950488016887242096980785696
        family = (1, [([[1]], [0, -1])])
        self.check_solves(family, ([[-close, BIG]], 1), ([[close]], [BIG]), [0, 1, 0])
        self.check_solves(family, ([TWO], 2), ([[close]], [BIG]), [0, 0, 0, 0, 0])
        self.check_solves(family, ([[-close, BIG], TWO], 3), ([[2]], [0, 1]), [0, 1, 0, 0, 0, 1, 0])
        self.check_solves((1, []), ([[-close, BIG], [-close - 1, BIG]][::-1], 2), ([[1]], TWO), [0, 1, 0, 1, 1])

    def test_at_random(self):
        maker = Maker(89)
        seen = {True: 0, False: 0}
        for family in some_families(90, 200):
            numbers = {Fraction(maker.source.randint(-3, 3), maker.source.randint(1, 2)) for _ in range(2)}
            division, cells = division_of([[-x.numerator, x.denominator] for x in numbers]), cells_of(numbers)
            own = kinds_of(family)[0]
            fractions = solve(family, own, maker.source.randrange(2 * own[1] + 1)) or (
                [maker.polynomial(1, 2) for _ in range(family[0])], maker.polynomial(1, 3))
            for k, cell in enumerate(cells):
                expected = polynomial_sign(fractions[1], cell) in (-1, 1)
                for coefficients, constant in family[1]:
                    total = product_by_powers(constant, fractions[1])
                    for a, numerator in zip(coefficients, fractions[0]):
                        total = sum_by_powers(total, product_by_powers(a, numerator))
                    expected = expected and polynomial_sign(total, cell) == 0
                self.assertIs(solves(family, division, k, fractions), expected)
                seen[expected] += 1
        self.assertGreater(min(seen.values()), 100)


if __name__ == "__main__":
    unittest.main()

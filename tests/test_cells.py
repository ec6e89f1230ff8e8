import bisect
import copy
import itertools
import random
import unittest
from fractions import Fraction

from helpers import as_number, check_new, made_plain, product_by_powers
from known import cube, key, keys_of, line, polynomial_of, sign_by, square
from wheretrue.cells import (
    cell_of, cells_in, division_of, is_division, is_fine, put_in, root_of, sample_of, sign_on, signs_on,
)
from wheretrue.errors import NotFine

# No two of them have a root in common, and none is a product.
FACTORS = [
    line(0), line(1), line(2), line(-3, 2), line(7, 5), line(1, 3), line(-4), square(2), square(3), square(1, 2),
    square(-1), square(-2, 3), cube(2), cube(-5, 3), cube(7), line(99, 70),
]


def some_lists(many, seed):
    """Lists of polynomials, each told by its factors, with factors in common, and more than once in one."""
    source = random.Random(seed)
    for _ in range(many):
        pool = source.sample(FACTORS, source.randint(1, len(FACTORS)))
        yield [source.choices(pool, k=source.randint(0, 4)) for _ in range(source.randint(0, 5))]


def parts_by_factors(lists):
    """The parts of the division, each told by its factors, in order: factors that stand in the same polynomials."""
    classes = {}
    for factor in FACTORS:
        places = tuple([k for k, factors in enumerate(lists) if factor in factors])
        if places:
            classes.setdefault(places, []).append(factor)
    return sorted(classes.values(), key=lambda factors: (len(part_of(factors)), part_of(factors)))


def part_of(factors):
    return made_plain(polynomial_of(factors))


def division_by_factors(lists):
    parts = parts_by_factors(lists)
    return ([part_of(factors) for factors in parts], len(keys_of(itertools.chain(*parts))))


def sample_by_search(places, cell):
    """The sample of the stretch between roots with these keys, by trying one number after the other."""
    if not places:
        return (0, 1)
    before = cell // 2
    if before == 0:
        return (max([m for m in range(-30, 30) if key(Fraction(m)) < places[0]]), 1)
    if before == len(places):
        return (min([m for m in range(-30, 30) if key(Fraction(m)) > places[-1]]), 1)
    scale = 1
    while True:
        # The least one that is greater than the root before it.
        candidates = range(-30 * scale, 30 * scale)
        least = candidates[bisect.bisect(candidates, places[before - 1], key=lambda m: key(Fraction(m, scale)))]
        if key(Fraction(least, scale)) < places[before]:
            return as_number(Fraction(least, scale))
        scale *= 2


class IsDivisionTest(unittest.TestCase):
    def check_is(self, expected, parts, count):
        self.assertIs(is_division((parts, count)), expected, (parts, count))
        check_new(self, is_division, (parts, count))

    def test_right_divisions(self):
        for parts, count in [
            ([], 0), ([[0, 1]], 1), ([[-1, 3]], 1), ([[-2, 0, 1]], 2), ([[1, 0, 1]], 0), ([[0, 1], [-2, 0, 1]], 3),
            ([[-1, 1], [0, 1], [1, 1]], 3), ([[-1, 2], [1, 0, 1], [-2, 0, 0, 1]], 2), ([[0, -2, 0, 1]], 3),
            ([[-1, 0, 1]], 2), ([[-3, 0, 1], [-2, 0, 1]], 4), ([[0, 1], [1, 0, 1], [2, 0, 1]], 1),
            ([[-10 ** 30, 1], [1, 10 ** 30]], 2), ([[2, -3, 1], [3, -4, 1]][:1], 2), ([[0, 1], [0, 2, 3][1:]], 2),
            ([[-1, 1], [-1, 2]], 2),
        ]:
            self.check_is(True, parts, count)

    def test_no_polynomials(self):
        for part in ([], [0], [0, 0], [1, 0], [0, 1, 0], [-2, 0, 1, 0]):
            self.check_is(False, [part], 0)
            self.check_is(False, [part], 1)
            self.check_is(False, [part], 2)
            self.check_is(False, [part, [0, 1]], 1)
            self.check_is(False, [[0, 1], part], 1)

    def test_degree_0(self):
        for part in ([1], [-1], [7]):
            self.check_is(False, [part], 0)
            self.check_is(False, [part, [0, 1]], 1)

    def test_not_plain(self):
        self.check_is(False, [[0, 2]], 1)
        self.check_is(False, [[0, -1]], 1)
        self.check_is(False, [[2, 0, -1]], 2)
        self.check_is(False, [[-4, 0, 2]], 2)
        self.check_is(False, [[2, 0, 2]], 0)
        self.check_is(False, [[0, 1], [-6, 0, 3]], 3)

    def test_not_square_free(self):
        self.check_is(False, [[0, 0, 1]], 1)
        self.check_is(False, [[1, -2, 1]], 1)
        self.check_is(False, [[1, 0, 2, 0, 1]], 0)
        self.check_is(False, [[4, 0, -4, 0, 1]], 2)
        self.check_is(False, [[0, 1], [1, -2, 1]], 2)

    def test_a_common_divisor(self):
        self.check_is(False, [[0, 1], [0, 1]], 1)
        self.check_is(False, [[0, 1], [0, 1]], 2)
        self.check_is(False, [[0, 1], [0, -2, 0, 1]], 3)
        self.check_is(False, [[-1, 1], [-1, 0, 1]], 2)
        self.check_is(False, [[-1, 1], [0, 1], [-1, 0, 1]], 3)
        self.check_is(False, [[1, 0, 1], [0, 1, 0, 1]], 1)
        self.check_is(False, [[2, -3, 1], [3, -4, 1]], 3)

    def test_a_wrong_order(self):
        self.check_is(False, [[-2, 0, 1], [0, 1]], 3)
        self.check_is(False, [[0, 1], [-1, 1]], 2)
        self.check_is(False, [[-1, 1], [1, 1], [0, 1]], 3)
        self.check_is(False, [[-2, 0, 1], [-3, 0, 1]], 4)
        # Lists are compared from the constant on.
        self.check_is(False, [[-1, 2], [-2, 1]], 2)
        self.check_is(True, [[-2, 1], [-1, 2]], 2)

    def test_a_wrong_count(self):
        for parts, count in [([], 0), ([[0, 1]], 1), ([[-2, 0, 1]], 2), ([[1, 0, 1]], 0), ([[0, 1], [-2, 0, 1]], 3)]:
            for wrong in range(-2, 6):
                self.check_is(wrong == count, parts, wrong)


class DivisionOfTest(unittest.TestCase):
    def check_division(self, polynomials, division):
        self.assertEqual(division_of(polynomials), division, polynomials)
        self.assertIs(is_division(division), True)
        check_new(self, division_of, polynomials)

    def test_worked_out(self):
        self.check_division([], ([], 0))
        self.check_division([[]], ([], 0))
        self.check_division([[], [5], [-1], []], ([], 0))
        self.check_division([[0, 3]], ([[0, 1]], 1))
        self.check_division([[-2, 0, 1], [0, -2, 0, 1]], ([[0, 1], [-2, 0, 1]], 3))
        self.check_division([[0, -2, 0, 1], [], [-2, 0, 1], [7]], ([[0, 1], [-2, 0, 1]], 3))
        self.check_division([[-2, 0, 1], [-2, 0, 1]], ([[-2, 0, 1]], 2))
        self.check_division([[-2, 0, 1], [4, 0, -2]], ([[-2, 0, 1]], 2))
        self.check_division([[0, 0, 0, 4], [0, 0, -1]], ([[0, 1]], 1))
        self.check_division([[1, 0, 1]], ([[1, 0, 1]], 0))
        # Roots of one polynomial alone stay together, though the polynomial is a product.
        self.check_division([[0, -1, 0, 1]], ([[0, -1, 0, 1]], 3))
        self.check_division([[0, -1, 0, 1], [1, 1]], ([[1, 1], [0, -1, 1]], 3))
        self.check_division([[0, -1, 1], [2, -3, 1]], ([[-2, 1], [-1, 1], [0, 1]], 3))
        self.check_division([[-1, 0, 0, 0, 1], [-1, 0, 1], [1, 0, 1]], ([[-1, 0, 1], [1, 0, 1]], 2))
        # How often a polynomial has a root does not count.
        self.check_division([[0, 0, -1, 1]], ([[0, -1, 1]], 2))
        self.check_division([[0, 0, -1, 1], [0, -1, 1]], ([[0, -1, 1]], 2))

    def test_against_factors(self):
        for lists in some_lists(250, 26):
            polynomials = [polynomial_of(factors) for factors in lists]
            self.check_division(polynomials, division_by_factors(lists))
            self.check_division(polynomials[::-1] + [[], [3]] + polynomials[:1], division_by_factors(lists))

    def test_great_polynomials(self):
        for degree in (20, 60):
            self.check_division([[-2] + [0] * (degree - 1) + [1]], ([[-2] + [0] * (degree - 1) + [1]], 2))
        n = 10 ** 40
        self.check_division([[-n, 1], [-n - 1, 1], [n * n + n, -2 * n - 1, 1]], ([[-n - 1, 1], [-n, 1]], 2))

    def test_put_in(self):
        division = ([[0, 1], [-2, 0, 1]], 3)
        for polynomials, expected in [
            ([], division), ([[]], division), ([[5], []], division), ([[0, 1]], division),
            ([[-2, 0, 1], [0, 7]], division), ([[-1, 1]], ([[-1, 1], [0, 1], [-2, 0, 1]], 4)),
            ([[1, 0, 1]], ([[0, 1], [-2, 0, 1], [1, 0, 1]], 3)), ([[0, -2, 0, 1]], division),
            ([[0, -1, 1]], ([[-1, 1], [0, 1], [-2, 0, 1]], 4)),
        ]:
            self.assertEqual(put_in(division, polynomials), expected)
            check_new(self, put_in, division, polynomials)
        self.assertEqual(put_in(([[0, -1, 0, 1]], 3), [[-1, 1]]), ([[-1, 1], [0, 1, 1]], 3))
        self.assertEqual(put_in(([], 0), [[-2, 0, 1], [0, -2, 0, 1]]), division)
        self.assertEqual(put_in(([], 0), []), ([], 0))

    def test_put_in_against_division_of(self):
        for lists in some_lists(150, 27):
            polynomials = [polynomial_of(factors) for factors in lists]
            for many in range(len(lists) + 1):
                division = division_of(polynomials[:many])
                together = put_in(division, polynomials[many:])
                # The parts of the first division count as polynomials of the list.
                parts = parts_by_factors(lists[:many])
                self.assertEqual(together, division_by_factors(parts + lists[many:]))
                self.assertEqual(together, division_of(division[0] + polynomials[many:]))


class PlacesTest(unittest.TestCase):
    def check_cells(self, lists):
        """Each cell by the known roots: what lies in it, its root or its sample."""
        division = division_of([polynomial_of(factors) for factors in lists])
        parts = parts_by_factors(lists)
        places = keys_of(itertools.chain(*parts))
        for k, place in enumerate(places):
            part, = [j for j, factors in enumerate(parts) if place in keys_of(factors)]
            self.assertEqual(root_of(division, 2 * k + 1), (part, keys_of(parts[part]).index(place)))
        for cell in range(0, 2 * len(places) + 1, 2):
            sample = sample_of(division, cell)
            self.assertEqual(sample, sample_by_search(places, cell))
            self.assertEqual(cell_of(division, sample), cell)
        for n in range(-12, 13):
            for d in (1, 3, 5):
                x = Fraction(n, d)
                expected = 2 * len([one for one in places if one < key(x)]) + (key(x) in places)
                self.assertEqual(cell_of(division, as_number(x)), expected)

    def test_against_factors(self):
        self.check_cells([])
        self.check_cells([[square(-1)]])
        for factor in FACTORS:
            self.check_cells([[factor]])
        self.check_cells([[factor] for factor in FACTORS])
        self.check_cells([FACTORS])
        for lists in some_lists(60, 28):
            self.check_cells(lists)

    def test_no_roots(self):
        for division in (([], 0), ([[1, 0, 1]], 0), ([[1, 0, 1], [1, 1, 1]], 0)):
            self.assertEqual(sample_of(division, 0), (0, 1))
            for x in ((0, 1), (-10 ** 40, 3), (10 ** 40, 1)):
                self.assertEqual(cell_of(division, x), 0)
                check_new(self, cell_of, division, x)
            check_new(self, sample_of, division, 0)

    def test_one_root(self):
        for part, left, right in [
            ([0, 1], -1, 1), ([-3, 1], 2, 4), ([3, 1], -4, -2), ([-1, 2], 0, 1), ([1, 2], -1, 0), ([-2, 0, 0, 1], 1, 2),
            ([2, 0, 0, 1], -2, -1), ([-10 ** 50, 1], 10 ** 50 - 1, 10 ** 50 + 1), ([-1, 10 ** 50], 0, 1),
            ([1, 10 ** 50], -1, 0),
        ]:
            division = ([part], 1)
            self.assertEqual(sample_of(division, 0), (left, 1))
            self.assertEqual(sample_of(division, 2), (right, 1))
            self.assertEqual(root_of(division, 1), (0, 0))
            check_new(self, root_of, division, 1)
            check_new(self, sample_of, division, 2)

    def test_samples_between(self):
        for polynomial, cell, sample in [
            ([0, -1, 1], 2, (1, 2)), ([0, -2, 1], 2, (1, 1)), ([0, -3, 1], 2, (1, 1)), ([2, -3, 1], 2, (3, 2)),
            ([-2, 0, 1], 2, (-1, 1)), ([0, -10, 1], 2, (1, 1)), ([0, 10, 1], 2, (-9, 1)), ([0, 1, 1], 2, (-1, 2)),
            ([-1, 0, 4], 2, (0, 1)), ([1, -6, 8], 2, (3, 8)), ([3, -16, 16], 2, (1, 2)), ([10, -19, 9], 2, (17, 16)),
            ([20, 13, 2], 2, (-3, 1)), ([30, 11, 1], 2, (-11, 2)), ([72, -127, 56], 2, (73, 64)),
        ]:
            self.assertEqual(sample_of(division_of([polynomial]), cell), sample, polynomial)

    def test_roots_close_together(self):
        n = 2 ** 100
        division = division_of([[-1, n], [-1, n + 1]])
        # 1 divided by n + 1 is about 2 ** -200 less than 2 ** -100.
        self.assertEqual(sample_of(division, 2), (2 ** 101 - 1, 2 ** 201))
        division = division_of([[-n, 1], [-n - 1, 1], [-2 * n - 1, 2]])
        self.assertEqual(sample_of(division, 0), (n - 1, 1))
        self.assertEqual(sample_of(division, 2), (4 * n + 1, 4))
        self.assertEqual(sample_of(division, 4), (4 * n + 3, 4))
        self.assertEqual(sample_of(division, 6), (n + 2, 1))
        # The root of 2, and a number that is a little greater.
        near = 1414213562373095048801688724210
        division = division_of([[-2, 0, 1], [-near, 10 ** 30]])
        low, scale = sample_of(division, 4)
        self.assertTrue(low * low > 2 * scale * scale and low * 10 ** 30 < near * scale)
        self.assertEqual(cell_of(division, (near, 10 ** 30)), 5)
        self.assertEqual(cell_of(division, (near - 1, 10 ** 30)), 2)
        self.assertEqual([root_of(division, cell) for cell in (1, 3, 5)], [(1, 0), (1, 1), (0, 0)])

    def test_whole_numbers(self):
        division = division_of([[-k, 1] for k in range(-5, 6)])
        for k in range(-5, 6):
            self.assertEqual(cell_of(division, (k, 1)), 2 * (k + 5) + 1)
            self.assertEqual(root_of(division, 2 * (k + 5) + 1), (5 - k, 0))
            self.assertEqual(sample_of(division, 2 * (k + 5)), (2 * k - 1, 2) if k > -5 else (-6, 1))
        self.assertEqual(sample_of(division, 22), (6, 1))

    def test_many_roots(self):
        factors = [[square(k * k + 1) for k in range(1, 16)], [line(k) for k in range(-5, 5)]]
        division = division_of([polynomial_of(one) for one in factors])
        self.assertEqual(division[1], 40)
        self.assertEqual(len(division[0]), 2)
        samples = [Fraction(*sample_of(division, cell)) for cell in range(0, 81, 2)]
        self.assertEqual(samples, sorted(samples))
        self.assertEqual([cell_of(division, as_number(x)) for x in samples], list(range(0, 81, 2)))


class SignsTest(unittest.TestCase):
    def check_not_fine(self, division, a):
        before = copy.deepcopy((division, a))
        self.assertIs(is_fine(division, a), False, (division, a))
        with self.assertRaises(NotFine) as caught:
            signs_on(division, a)
        self.assertIs(caught.exception.__class__, NotFine)
        for cell in range(2 * division[1] + 1):
            with self.assertRaises(NotFine) as caught:
                sign_on(division, cell, a)
            self.assertIs(caught.exception.__class__, NotFine)
        self.assertEqual((division, a), before)

    def check_signs(self, division, a, signs):
        self.assertIs(is_fine(division, a), True, (division, a))
        self.assertEqual(signs_on(division, a), signs, (division, a))
        self.assertEqual([sign_on(division, cell, a) for cell in range(len(signs))], signs)
        check_new(self, is_fine, division, a)
        check_new(self, signs_on, division, a)
        check_new(self, sign_on, division, 0, a)

    def test_worked_out(self):
        division = ([[0, 1], [-2, 0, 1]], 3)
        self.check_signs(division, [], [0] * 7)
        self.check_signs(division, [-4], [-1] * 7)
        self.check_signs(division, [4], [1] * 7)
        self.check_signs(division, [0, 1], [-1, -1, -1, 0, 1, 1, 1])
        self.check_signs(division, [0, 0, 3], [1, 1, 1, 0, 1, 1, 1])
        self.check_signs(division, [-2, 0, 1], [1, 0, -1, -1, -1, 0, 1])
        self.check_signs(division, [0, -2, 0, 1], [-1, 0, 1, 0, -1, 0, 1])
        self.check_signs(division, [4, 0, -4, 0, 1], [1, 0, 1, 1, 1, 0, 1])
        self.check_signs(division, [2, 0, 1, 0, -1], [-1, 0, 1, 1, 1, 0, -1])
        self.check_signs(division, [1, 0, 1], [1] * 7)
        self.check_signs(division, [-1, 0, -1], [-1] * 7)
        for a in ([-1, 1], [0, -1, 1], [-3, 0, 1], [-2, 0, 0, 1], [0, 1, 0, 0, 1], [-1, 0, 1], [6, 0, -5, 0, 1]):
            self.check_not_fine(division, a)

    def test_one_root_of_a_part(self):
        # The part has two roots, of which the polynomial has one.
        division = ([[2, -3, 1]], 2)
        self.check_signs(division, [-1, 1], [-1, 0, 1, 1, 1])
        self.check_signs(division, [2, -1], [1, 1, 1, 0, -1])
        self.check_signs(division, [-1, 1, -1, 1], [-1, 0, 1, 1, 1])
        self.check_not_fine(division, [-3, 1])
        self.check_not_fine(division, [3, -4, 1])
        self.check_signs(([[0, -2, 0, 1]], 3), [-2, 0, 1], [1, 0, -1, -1, -1, 0, 1])
        self.check_signs(([[0, -2, 0, 1]], 3), [0, 0, 1], [1, 1, 1, 0, 1, 1, 1])

    def test_no_real_roots(self):
        for division in (([], 0), ([[0, 1]], 1), ([[1, 0, 1]], 0), ([[0, -1, 0, 1], [1, 0, 1]], 3)):
            cells = 2 * division[1] + 1
            for a in ([1, 0, 1], [2, 1, 1], [1, 0, 2, 0, 1], [5, 0, 0, 0, 0, 0, 1], [7]):
                self.check_signs(division, a, [1] * cells)
                self.check_signs(division, [-c for c in a], [-1] * cells)
            self.check_signs(division, [], [0] * cells)
            self.check_not_fine(division, [-5, 1])
            self.check_not_fine(division, [0, 0, -5, 1])
            self.check_not_fine(division, product_by_powers([1, 0, 1], [-5, 1]))

    def test_against_factors(self):
        source = random.Random(29)
        for lists in some_lists(80, 30):
            division = division_of([polynomial_of(factors) for factors in lists])
            there = list(itertools.chain(*lists)) + [square(-1), square(-7, 2)]
            places = keys_of(there)
            for _ in range(4):
                factors = source.choices(there, k=source.randint(0, 4))
                signs = []
                for cell in range(2 * division[1] + 1):
                    place = places[cell // 2] if cell % 2 else key(Fraction(*sample_of(division, cell)))
                    signs.append(sign_by(factors, place))
                self.check_signs(division, polynomial_of(factors), signs)
                self.check_signs(division, [-3 * c for c in polynomial_of(factors)], [-one for one in signs])
                self.check_not_fine(division, polynomial_of(factors + [line(11, 13)]))
                self.check_not_fine(division, polynomial_of(factors + [square(11)]))

    def test_great_numbers(self):
        n = 10 ** 40
        division = division_of([[-n, 1], [-n - 1, 1], [-1, n]])
        self.check_signs(division, [n * n + n, -2 * n - 1, 1], [1, 1, 1, 0, -1, 0, 1])
        self.check_signs(division, [-1, n], [-1, 0, 1, 1, 1, 1, 1])
        self.check_not_fine(division, [-2 * n - 1, 2])
        # A root of the polynomial that is next to one of the division.
        self.check_not_fine(([[-2, 0, 1]], 2), [-1414213562373095048801688724210, 10 ** 30])


class CellsInTest(unittest.TestCase):
    def check_cells(self, finer, division, cells):
        self.assertEqual(cells_in(finer, division), cells, (finer, division))
        check_new(self, cells_in, finer, division)

    def check_not_finer(self, finer, division):
        with self.assertRaises(NotFine) as caught:
            cells_in(finer, division)
        self.assertIs(caught.exception.__class__, NotFine)

    def test_worked_out(self):
        finer = ([[0, 1], [-2, 0, 1]], 3)
        self.check_cells(finer, finer, [0, 1, 2, 3, 4, 5, 6])
        self.check_cells(finer, ([], 0), [0] * 7)
        self.check_cells(finer, ([[1, 0, 1]], 0), [0] * 7)
        self.check_cells(finer, ([[0, 1]], 1), [0, 0, 0, 1, 2, 2, 2])
        self.check_cells(finer, ([[-2, 0, 1]], 2), [0, 1, 2, 2, 2, 3, 4])
        self.check_cells(finer, ([[0, -2, 0, 1]], 3), [0, 1, 2, 3, 4, 5, 6])
        self.check_cells(([[0, -2, 0, 1]], 3), finer, [0, 1, 2, 3, 4, 5, 6])
        self.check_cells(([[2, -3, 1]], 2), ([[-1, 1]], 1), [0, 1, 2, 2, 2])
        self.check_cells(([[2, -3, 1]], 2), ([[-2, 1], [1, 0, 1]], 1), [0, 0, 0, 1, 2])
        self.check_cells(([], 0), ([], 0), [0])
        self.check_cells(([], 0), ([[1, 0, 1]], 0), [0])

    def test_not_finer(self):
        for finer, division in [
            (([], 0), ([[0, 1]], 1)), (([[0, 1]], 1), ([[-1, 1]], 1)), (([[0, 1]], 1), ([[0, 1], [-2, 0, 1]], 3)),
            (([[0, 1], [-2, 0, 1]], 3), ([[0, 1], [-3, 0, 1], [-2, 0, 1]], 5)), (([[-1, 1]], 1), ([[2, -3, 1]], 2)),
            (([[1, 0, 1]], 0), ([[0, 1]], 1)),
        ]:
            self.check_not_finer(finer, division)

    def test_against_samples(self):
        for lists in some_lists(80, 31):
            polynomials = [polynomial_of(factors) for factors in lists]
            finer = division_of(polynomials)
            places = keys_of(itertools.chain(*lists))
            for many in range(len(lists)):
                division = division_of(polynomials[:many])
                fewer = keys_of(itertools.chain(*lists[:many]))
                cells = cells_in(finer, division)
                self.assertEqual(len(cells), 2 * finer[1] + 1)
                for cell in range(0, len(cells), 2):
                    self.assertEqual(cells[cell], cell_of(division, sample_of(finer, cell)))
                for k, place in enumerate(places):
                    below = len([one for one in fewer if one < place])
                    self.assertEqual(cells[2 * k + 1], 2 * below + (place in fewer))
                if len(fewer) < len(places):
                    self.check_not_finer(division, finer)


if __name__ == "__main__":
    unittest.main()

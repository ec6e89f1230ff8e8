import unittest
from fractions import Fraction

from helpers import check_new
from making import Maker
from searching import Surd, exact_point, truth_of
from wheretrue.where import pieces, where

TWO = [-2, 0, 1]
INVERSE = ("some", 1, [([[0, 1]], [-1], "=")])


def floor_on(t, grid):
    """The floor of a Fraction or a Surd on the grid, by halving."""
    low, high = -10 ** 9, 10 ** 9
    while low + 1 < high:
        middle = (low + high) // 2
        if t * grid < middle:
            high = middle
        else:
            low = middle
    return low


def pieces_by_search(formula, grid):
    """The pieces by the truths at numbers of all cells of a right answer, or None if some cell has no such number."""
    division = where(formula)[0]
    points = [exact_point(division, cell) for cell in range(2 * division[1] + 1)]
    if None in points:
        return None
    found = []
    inside = False
    for cell, t in enumerate(points):
        if truth_of(formula, t):
            if not inside:
                found.append((None, False, None, False) if cell == 0 else
                             (floor_on(points[cell - 1 + cell % 2], grid), cell % 2 == 1, None, False))
            inside = True
        elif inside:
            found[-1] = (*found[-1][:2], floor_on(points[cell - 1 + cell % 2], grid), cell % 2 == 0)
            inside = False
    return found


class PiecesTest(unittest.TestCase):
    def check_pieces(self, formula, *expected, grid=1):
        self.assertEqual(pieces(formula, grid=grid), list(expected), (formula, grid))
        check_new(self, pieces, formula, grid=grid)

    def test_the_examples_of_the_document(self):
        self.check_pieces(("sign", TWO, "<="), (-15, True, 14, True), grid=10)
        self.check_pieces(INVERSE, (None, False, 0, False), (0, False, None, False))

    def test_no_piece(self):
        self.check_pieces(("sign", [1], "<"))
        self.check_pieces(("sign", [1, 0, 1], "="), grid=1000)
        self.check_pieces(("and", INVERSE, ("sign", [0, 1], "=")))

    def test_everywhere(self):
        everything = (None, False, None, False)
        self.check_pieces(("sign", [1], ">"), everything)
        self.check_pieces(("sign", [0, 0, 1], ">="), everything, grid=10)
        # The roots of the parts are no ends.
        self.check_pieces(("or", ("sign", TWO, "<"), ("sign", TWO, ">=")), everything, grid=1000)
        self.check_pieces(("or", INVERSE, ("sign", [0, 1], "=")), everything)

    def test_single_values(self):
        self.check_pieces(("sign", [0, 1], "="), (0, True, 0, True))
        self.check_pieces(("sign", [-3, 2], "="), (1, True, 1, True))
        self.check_pieces(("sign", [-3, 2], "="), (15, True, 15, True), grid=10)
        self.check_pieces(("sign", [3, 2], "="), (-2, True, -2, True))
        self.check_pieces(("sign", TWO, "="), (-2, True, -2, True), (1, True, 1, True))
        self.check_pieces(("sign", TWO, "="), (-1415, True, -1415, True), (1414, True, 1414, True), grid=1000)
        self.check_pieces(("not", INVERSE), (0, True, 0, True), grid=10)

    def test_no_end_on_one_side(self):
        self.check_pieces(("sign", [-5, 2], "<"), (None, False, 2, False))
        self.check_pieces(("sign", [-5, 2], "<="), (None, False, 25, True), grid=10)
        self.check_pieces(("sign", [-5, 2], ">"), (2500, False, None, False), grid=1000)
        self.check_pieces(("sign", [5, 2], ">="), (-3, True, None, False))
        self.check_pieces(("sign", TWO, ">="), (None, False, -15, True), (14, True, None, False), grid=10)
        self.check_pieces(("sign", TWO, ">"), (None, False, -2, False), (1, False, None, False))

    def test_closed_and_open_ends(self):
        # From 0 to 1, with either end.
        for low, is_low_closed in ((">", False), (">=", True)):
            for high, is_high_closed in (("<", False), ("<=", True)):
                formula = ("and", ("sign", [0, 1], low), ("sign", [-1, 1], high))
                self.check_pieces(formula, (0, is_low_closed, 10, is_high_closed), grid=10)
        mixed = ("and", ("sign", TWO, "<"), ("sign", [0, 1], ">="))
        self.check_pieces(mixed, (0, True, 14, False), grid=10)

    def test_pieces_that_share_an_open_end(self):
        self.check_pieces(("sign", TWO, "!="), (None, False, -15, False), (-15, False, 14, False),
                          (14, False, None, False), grid=10)
        self.check_pieces(("sign", [1, -2, 1], ">"), (None, False, 1, False), (1, False, None, False))
        self.check_pieces(("and", ("sign", [0, 1], "!="), ("sign", [-1, 0, 1], "<=")),
                          (-10, True, 0, False), (0, False, 10, True), grid=10)

    def test_cells_that_join(self):
        self.check_pieces(("or", ("sign", [0, 1], "<"), ("sign", [0, -1, 1], "<=")), (None, False, 1, True))
        self.check_pieces(("or", ("sign", [0, -1, 1], "<"), ("sign", [2, -3, 1], "<=")), (0, False, 2, True))
        self.check_pieces(("or", ("sign", [0, -1, 1], "<"), ("sign", [2, -3, 1], "<")),
                          (0, False, 1, False), (1, False, 2, False))
        self.check_pieces(("or", ("sign", [0, -1, 1], "<"), ("sign", [-1, 1], "=")), (0, False, 1000, True), grid=1000)

    def test_several_pieces(self):
        # A polynomial with the roots -2, -1, 1 and 2.
        four = [4, 0, -5, 0, 1]
        self.check_pieces(("sign", four, "<"), (-2, False, -1, False), (1, False, 2, False))
        self.check_pieces(("sign", four, ">="), (None, False, -20, True), (-10, True, 10, True),
                          (20, True, None, False), grid=10)
        self.check_pieces(("or", ("sign", four, "="), ("sign", [-15, 10], "=")),
                          *[(place, True, place, True) for place in (-2, -1, 1, 1, 2)])

    def test_rational_ends_on_the_grid_and_off_it(self):
        for polynomial, floors in [([-1, 3], (0, 3, 333)), ([1, 3], (-1, -4, -334)), ([-27, 10], (2, 27, 2700)),
                                   ([27, 10], (-3, -27, -2700)), ([-1, 99], (0, 0, 10)), ([1, 99], (-1, -1, -11)),
                                   ([-99, 1], (99, 990, 99000)), ([99, 2], (-50, -495, -49500))]:
            for grid, floor in zip((1, 10, 1000), floors):
                self.check_pieces(("sign", polynomial, ">"), (floor, False, None, False), grid=grid)
                self.check_pieces(("sign", polynomial, "<="), (None, False, floor, True), grid=grid)

    def test_irrational_ends(self):
        for polynomial, lows, highs in [
            (TWO, (-2, -15, -1415), (1, 14, 1414)), ([-99, 0, 2], (-8, -71, -7036), (7, 70, 7035)),
            ([-1, -2, 1], (-1, -5, -415), (2, 24, 2414)), ([-1, 2, 1], (-3, -25, -2415), (0, 4, 414)),
        ]:
            for grid, low, high in zip((1, 10, 1000), lows, highs):
                self.check_pieces(("sign", polynomial, "<"), (low, False, high, False), grid=grid)
        self.check_pieces(("sign", [-2, 0, 0, 1], ">="), (1259, True, None, False), grid=1000)
        self.check_pieces(("sign", [2, 0, 0, 1], ">="), (-1260, True, None, False), grid=1000)

    def test_blocks(self):
        # Some number is at least 2, and at most t * t.
        formula = ("some", 1, [([[1]], [0, 0, -1], "<="), ([[-1]], [2], "<=")])
        self.check_pieces(formula, (None, False, -15, True), (14, True, None, False), grid=10)
        formula = ("some", 1, [([[1]], [0, 0, -1], "<"), ([[-1]], [2], "<=")])
        self.check_pieces(formula, (None, False, -15, False), (14, False, None, False), grid=10)
        triangle = ("some", 2, [([[-1], []], [], "<="), ([[], [-1]], [], "<="), ([[1], [1]], [0, -3, 1], "<=")])
        self.check_pieces(triangle, (0, True, 3, True))

    def test_at_random(self):
        maker = Maker(20)
        compared = 0
        for k in range(150):
            formula = maker.formula(maker.source.randint(1, 3), k % 2)
            for grid in (1, 10, 1000, maker.source.randint(2, 999)):
                expected = pieces_by_search(formula, grid)
                if expected is not None:
                    self.assertEqual(pieces(formula, grid=grid), expected, (formula, grid))
                    compared += len(expected)
        self.assertGreater(compared, 300)

    def test_the_floors_of_the_search(self):
        for t, grid, floor in [(Fraction(-3, 2), 1, -2), (Surd(0, -1, 2), 10, -15), (Fraction(7), 3, 21)]:
            self.assertEqual(floor_on(t, grid), floor)


if __name__ == "__main__":
    unittest.main()

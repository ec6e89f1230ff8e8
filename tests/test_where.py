import copy
import unittest
from fractions import Fraction

from helpers import as_number, check_new, lists_in
from making import SIGNS, Maker
from searching import Surd, exact_point, truth_of
from wheretrue.cells import is_division, put_in, sign_on
from wheretrue.formulas import pushed
from wheretrue.where import is_empty, is_everywhere, is_where, truth_at, where

BIG = 10 ** 40
TWO = [-2, 0, 1]
INVERSE = ("some", 1, [([[0, 1]], [-1], "=")])
# There is no such number where t is 0, and there are numbers at the ends from 1 to 2, but not beyond.
BETWEEN = ("some", 1, [([[1]], [0, -1], "<="), ([[-1]], [2, -1], "<="), ([[-1]], [1], "<="), ([[1]], [-2, 0, 1], "<=")])


def block(many, *rows):
    return ("some", many, list(rows))


class TruthAtTest(unittest.TestCase):
    def check_truth(self, expected, formula, t):
        self.assertIs(truth_at(formula, t), expected, (formula, t))
        check_new(self, truth_at, formula, t)

    def test_sign_atoms(self):
        for sign, expected in [("<", [0, 1, 0]), ("<=", [1, 1, 0]), ("=", [1, 0, 0]), ("!=", [0, 1, 1]),
                               (">=", [1, 0, 1]), (">", [0, 0, 1])]:
            for t, one in zip([(3, 2), (7, 5), (8, 5)], expected):
                self.check_truth(bool(one), ("sign", [-9, 0, 4], sign), t)
        for sign in SIGNS:
            self.check_truth(sign in ("<=", "=", ">="), ("sign", [], sign), (5, 3))
            self.check_truth(sign in ("<", "<=", "!="), ("sign", [-1], sign), (5, 3))

    def test_blocks(self):
        self.check_truth(False, INVERSE, (0, 1))
        self.check_truth(True, INVERSE, (1, BIG))
        two = block(2, ([[1], [0, 1]], [-1], "="), ([[0, 1], [1]], [-1], "="), ([[1], []], [], "<="))
        # Both numbers are 1 divided by t + 1, but at 1, where there are many.
        for t, expected in [((0, 1), False), ((-1, 1), False), ((-2, 1), True), ((1, 1), True), ((3, 2), False)]:
            self.check_truth(expected, two, t)

    def test_not_and_or(self):
        low, high = ("sign", [-1, 1], ">"), ("sign", [-2, 1], "<")
        for t, first, second in [((1, 1), False, True), ((3, 2), True, True), ((2, 1), True, False)]:
            self.check_truth(first, low, t)
            self.check_truth(not first, ("not", low), t)
            self.check_truth(first, ("not", ("not", low)), t)
            self.check_truth(first and second, ("and", low, high), t)
            self.check_truth(first or second, ("or", low, high), t)
            self.check_truth(not (first and second), ("not", ("and", low, high)), t)

    def test_many_figures(self):
        root = ("sign", [-1, 10], "=")
        self.check_truth(True, root, (1, 10))
        self.check_truth(False, root, (BIG + 1, 10 * BIG))
        self.check_truth(True, ("sign", TWO, "<"), (14142135623730950488016887242096980785696, BIG))
        self.check_truth(False, ("sign", TWO, "<"), (14142135623730950488016887242096980785697, BIG))

    def test_at_random(self):
        maker = Maker(10)
        for _ in range(300):
            formula = maker.formula(maker.source.randint(0, 3), maker.source.randint(1, 2))
            t = Fraction(maker.source.randint(-6, 6), maker.source.randint(1, 4))
            self.assertIs(truth_at(formula, as_number(t)), truth_of(formula, t))


class WhereTest(unittest.TestCase):
    def check_where(self, formula):
        """Checks the answer at a number of each cell, and wrong answers that are made of it."""
        answer = where(formula)
        division, truths = answer
        self.assertIs(is_division(division), True)
        self.assertEqual(len(truths), 2 * division[1] + 1)
        for cell, truth in enumerate(truths):
            self.assertIs(type(truth), bool)
            t = exact_point(division, cell)
            if t is not None:
                self.assertIs(truth_of(formula, t), truth, (formula, answer, t))
        self.assertIs(is_where(formula, answer), True, (formula, answer))
        # Of many cells some are enough, stretches and roots.
        for cell in range(0, len(truths), 1 + len(truths) // 8 * 3):
            changed = truths[:cell] + [not truths[cell]] + truths[cell + 1:]
            self.assertIs(is_where(formula, (division, changed)), False, (formula, answer, cell))
        for wrong in (truths[:-1], truths + [truths[-1]], truths + [False] * 3, []):
            self.assertIs(is_where(formula, (division, wrong)), False)
        self.assertIs(is_empty(formula), not any(truths))
        self.assertIs(is_everywhere(formula), all(truths))
        return answer

    def check_by_points(self, formula, trues, falses):
        self.check_where(formula)
        for expected, points in ((True, trues), (False, falses)):
            for t in points:
                self.assertIs(truth_of(formula, t), expected, t)
                part = [t.a ** 2 - t.b ** 2 * t.d, -2 * t.a, 1] if isinstance(t, Surd) else [-t, 1]
                self.assertTrue(all(c == int(c) for c in part))
                self.check_at_root(formula, [int(c) for c in part], t, expected)

    def check_at_root(self, formula, part, t, expected):
        """The answer still holds with this root put in, and with no other truth there."""
        division, truths = where(formula)
        finer = put_in(division, [part])
        spread = [truth_of(formula, point) if (point := exact_point(finer, cell)) is not None else None
                  for cell in range(2 * finer[1] + 1)]
        if None not in spread:
            self.assertIs(is_where(formula, (finer, spread)), True)
            cells = [cell for cell in range(1, len(spread), 2) if exact_point(finer, cell) == t]
            self.assertEqual(len(cells), 1)
            self.assertIs(spread[cells[0]], expected)
            spread[cells[0]] = not expected
            self.assertIs(is_where(formula, (finer, spread)), False)

    def test_sign_atoms(self):
        for sign in SIGNS:
            for polynomial in ([], [1], [-3], [0, 1], [1, -2], TWO, [1, 0, 1], [0, 0, 1], [1, -2, 1], [4, 0, -4, 0, 1],
                               [0, -2, 0, 1], [-2, 0, 0, 1], [-2, 0, 0, 0, 1], [0, 6, -5, -2, 1]):
                self.check_where(("sign", polynomial, sign))

    def test_the_roots_of_sign_atoms(self):
        root = Surd(0, 1, 2)
        self.check_by_points(("sign", TWO, "<="), [0, 1, root, -root], [2, -2])
        self.check_by_points(("sign", TWO, "<"), [0, 1], [root, -root, 2])
        self.check_by_points(("sign", TWO, "="), [root, -root], [1, 2])
        self.check_by_points(("sign", [4, 0, -4, 0, 1], ">"), [0, 1, 2], [root, -root])
        self.check_by_points(("sign", [4, 0, -4, 0, 1], "<="), [root, -root], [0, 2])
        self.check_by_points(("sign", [-1, -2, 1], ">="), [Surd(1, 1, 2), Surd(1, -1, 2), 3, -1], [0, 1, 2])

    def test_blocks(self):
        self.check_by_points(INVERSE, [1, -1, Surd(0, 1, 2)], [0])
        self.check_by_points(BETWEEN, [1], [0, 2, Surd(0, 1, 2), Surd(0, -1, 2)])
        # There is a number below t * t, and above 2.
        self.check_by_points(block(1, ([[1]], [0, 0, -1], "<="), ([[-1]], [2], "<=")), [Surd(0, 1, 2), 2, -2], [1, 0])
        self.check_by_points(block(1, ([[1]], [0, 0, -1], "<"), ([[-1]], [2], "<=")), [2, -2], [Surd(0, 1, 2), 1, 0])
        # The coefficient that vanishes at an irrational root lets the numbers free, or leaves none.
        self.check_by_points(block(1, ([TWO], [-1], "=")), [0, 1, 2], [Surd(0, 1, 2), Surd(0, -1, 2)])
        self.check_by_points(block(1, ([TWO], [], "="), ([[1]], [-1], "=")), [Surd(0, 1, 2), Surd(0, -1, 2)], [0, 2])
        self.check_by_points(block(2, ([TWO, [0, 1]], [1], "<"), ([TWO, [0, -1]], [1], "<="), ([[-1], []], [], "<=")),
                             [0, 1, -1], [Surd(0, 1, 2), Surd(0, -1, 2), 2, -2])

    def test_blocks_of_two_numbers(self):
        self.check_by_points(block(2, ([[1], [0, 1]], [-1], "="), ([[0, 1], [1]], [-2], "=")), [0, 2, -3], [1, -1])
        self.check_by_points(block(2, ([[1], [0, 1]], [-1], "="), ([[0, 1], [1]], [-1], "=")), [0, 2, 1], [-1])
        self.check_by_points(block(2, ([[-1], []], [], "<"), ([[], [-1]], [], "<"), ([[1], [0, 1]], [0, 1], "<=")),
                             [-1, -2], [0, 1])
        self.check_by_points(block(2, ([[], []], [-1, 1], "<="), ([[], []], [0, -1], "<")), [1], [0, 2])

    def test_not_and_or(self):
        root = Surd(0, 1, 2)
        self.check_by_points(("not", INVERSE), [0], [1, root])
        self.check_by_points(("and", INVERSE, ("sign", TWO, "<=")), [1, root, -root], [0, 2])
        self.check_by_points(("or", ("not", INVERSE), ("sign", TWO, "=")), [0, root, -root], [1, 2])
        self.check_by_points(("not", ("or", ("sign", [0, 1], "<"), ("sign", TWO, ">"))), [0, 1, root], [-1, 2])

    def test_a_truth_at_a_root_that_differs_from_both_sides(self):
        for polynomial in (TWO, [0, 1], [-2, 0, 0, 1]):
            for sign in ("=", "!="):
                division, truths = self.check_where(("sign", polynomial, sign))
                for k in range(division[1]):
                    self.assertEqual(truths[2 * k:2 * k + 3], [sign == "!=", sign == "=", sign == "!="])

    def test_at_random(self):
        maker = Maker(11)
        for k in range(120):
            self.check_where(maker.formula(k % 4, maker.source.randint(0 if k % 4 else 1, 2)))

    def test_blocks_at_random(self):
        maker = Maker(12)
        seen = set()
        for _ in range(150):
            formula = maker.block()
            _, truths = self.check_where(formula)
            seen.add((formula[1], len(formula[2]), any(truths), all(truths)))
        self.assertGreaterEqual(len(seen), 25)

    def test_the_greatest_formulas(self):
        maker = Maker(13)
        for _ in range(3):
            formula = maker.formula(6, 3, many=2, rows=5, bound=20)
            answer = where(formula)
            self.assertIs(is_where(formula, answer), True)
            self.assertIs(is_where(pushed(formula), answer), True)
            self.assertIs(is_where(("not", formula), (answer[0], [not truth for truth in answer[1]])), True)

    def test_new_lists(self):
        maker = Maker(14)
        for _ in range(20):
            formula = maker.formula(maker.source.randint(0, 2), 1)
            check_new(self, where, formula)
            check_new(self, is_where, formula, where(formula))
            check_new(self, is_empty, formula)
            check_new(self, is_everywhere, formula)

    def test_what_is_handed_in_is_not_kept(self):
        formula = ("and", ("sign", [-2, 0, 1], "<"), ("some", 1, [([[0, 1]], [-1], "=")]))
        before = where(formula)
        handed = copy.deepcopy(formula)
        where(handed)
        for one in lists_in(handed):
            one.clear()
        self.assertEqual(where(formula), before)


class IsWhereTest(unittest.TestCase):
    """Answers that are told by hand."""

    def check_is_where(self, expected, formula, division, truths):
        self.assertIs(is_where(formula, (division, truths)), expected, (formula, division, truths))
        check_new(self, is_where, formula, (division, truths))

    def test_right(self):
        self.check_is_where(True, ("sign", TWO, "<="), ([TWO], 2), [False, True, True, True, False])
        self.check_is_where(True, INVERSE, ([[0, 1]], 1), [True, False, True])
        self.check_is_where(True, ("sign", [1], ">"), ([], 0), [True])
        self.check_is_where(True, ("sign", [1, 0, 1], "<"), ([[1, 0, 1]], 0), [False])

    def test_one_truth_changed(self):
        for cell in range(5):
            truths = [False, True, True, True, False]
            truths[cell] = not truths[cell]
            self.check_is_where(False, ("sign", TWO, "<="), ([TWO], 2), truths)

    def test_too_few_or_too_many(self):
        for truths in ([], [True], [True, False], [True, False, True, True], [True, False, True, True, True]):
            self.check_is_where(False, INVERSE, ([[0, 1]], 1), truths)
        self.check_is_where(False, ("sign", [1], ">"), ([], 0), [])
        self.check_is_where(False, ("sign", [1], ">"), ([], 0), [True, True])

    def test_further_roots(self):
        self.check_is_where(True, INVERSE, ([[-1, 1], [0, 1]], 2), [True, False, True, True, True])
        self.check_is_where(False, INVERSE, ([[-1, 1], [0, 1]], 2), [True, True, True, False, True])
        self.check_is_where(True, INVERSE, ([[0, 1], TWO], 3), [True, True, True, False, True, True, True])
        self.check_is_where(True, INVERSE, ([[0, -2, 0, 1]], 3), [True, True, True, False, True, True, True])
        self.check_is_where(False, INVERSE, ([[0, -2, 0, 1]], 3), [True, True, True, False, False, True, True])
        self.check_is_where(True, ("sign", [1], ">"), ([TWO], 2), [True] * 5)
        for cell in range(5):
            self.check_is_where(False, ("sign", [1], ">"), ([TWO], 2), [k != cell for k in range(5)])

    def test_roots_left_out(self):
        # The truth differs within the cell.
        self.check_is_where(False, INVERSE, ([], 0), [True])
        self.check_is_where(False, INVERSE, ([], 0), [False])
        self.check_is_where(False, INVERSE, ([[-1, 1]], 1), [True, True, True])
        self.check_is_where(False, ("sign", TWO, "<="), ([[-7, 5], [7, 5]], 2), [False, True, True, True, False])
        self.check_is_where(False, ("sign", TWO, "="), ([], 0), [False])
        self.check_is_where(False, ("sign", TWO, "!="), ([[0, 1]], 1), [True, True, True])
        # It does not, though a polynomial has a root there.
        self.check_is_where(True, ("sign", [0, 0, 1], ">="), ([], 0), [True])
        self.check_is_where(True, ("sign", [4, 0, -4, 0, 1], "<"), ([], 0), [False])
        self.check_is_where(True, ("or", ("sign", TWO, "<"), ("sign", TWO, ">=")), ([], 0), [True])
        self.check_is_where(True, ("or", INVERSE, ("sign", [0, 1], "=")), ([], 0), [True])
        self.check_is_where(False, ("or", INVERSE, ("sign", TWO, "=")), ([], 0), [True])
        self.check_is_where(True, ("and", ("sign", TWO, "<"), ("sign", [0, 1], "!=")), ([[0, 1], TWO], 3),
                            [False, False, True, False, True, False, False])
        self.check_is_where(True, ("and", ("sign", TWO, "<"), ("sign", [-3, 1], "<")), ([TWO], 2),
                            [False, False, True, False, False])

    def test_a_root_left_out_on_one_side_alone(self):
        # One of the two roots of the part is needed, so the other one comes along.
        formula = ("and", ("sign", TWO, "<"), ("sign", [0, 1], ">"))
        self.check_is_where(True, formula, ([[0, 1], TWO], 3), [False] * 4 + [True] + [False] * 2)
        self.check_is_where(False, formula, ([TWO], 2), [False, False, True, False, False])
        self.check_is_where(False, formula, ([[0, 1]], 1), [False, False, True])

    def test_the_truth_at_a_root_alone(self):
        self.check_is_where(True, ("sign", TWO, "="), ([TWO], 2), [False, True, False, True, False])
        self.check_is_where(False, ("sign", TWO, "="), ([TWO], 2), [False, True, False, False, False])
        self.check_is_where(False, ("sign", TWO, "="), ([TWO], 2), [False] * 5)
        self.check_is_where(True, ("not", INVERSE), ([[0, 1]], 1), [False, True, False])
        self.check_is_where(False, ("not", INVERSE), ([[0, 1]], 1), [False, False, False])

    def test_close_roots(self):
        close = [-14142135623730950488016887242096980785696, BIG]
        closer = [-14142135623730950488016887242096980785697, BIG]
        formula = ("sign", TWO, "<")
        self.check_is_where(False, formula, ([closer, close], 2), [True, True, True, True, False])
        self.check_is_where(True, formula, ([closer, close, TWO], 4),
                            [False, False, True, True, True, False, False, False, False])
        self.check_is_where(False, formula, ([closer, close, TWO], 4),
                            [False, False, True, False, True, False, False, False, False])


class EmptyAndEverywhereTest(unittest.TestCase):
    def check_both(self, formula, empty, everywhere):
        self.assertIs(is_empty(formula), empty, formula)
        self.assertIs(is_everywhere(formula), everywhere, formula)
        self.assertIs(is_empty(("not", formula)), everywhere, formula)
        self.assertIs(is_everywhere(("not", formula)), empty, formula)

    def test_both(self):
        self.check_both(("sign", [1], "<"), True, False)
        self.check_both(("sign", [1], ">"), False, True)
        self.check_both(("sign", [1, 0, 1], "<="), True, False)
        self.check_both(("sign", [1, 0, 1], ">"), False, True)
        self.check_both(("sign", TWO, "="), False, False)
        self.check_both(("sign", [4, 0, -4, 0, 1], "<"), True, False)
        self.check_both(("sign", [4, 0, -4, 0, 1], "<="), False, False)
        self.check_both(INVERSE, False, False)
        self.check_both(("or", INVERSE, ("sign", [0, 1], "=")), False, True)
        self.check_both(("and", ("not", INVERSE), ("sign", [0, 1], "!=")), True, False)
        self.check_both(block(2, ([[0, 1], [1]], [1], "<"), ([[0, -1], [-1]], [-1], "<")), True, False)
        self.check_both(block(2, ([[0, 1], [1]], [1], "<="), ([[0, -1], [-1]], [-1], "<=")), False, True)


class SignsOfAnAnswerTest(unittest.TestCase):
    def test_where_is_as_the_signs_on_the_cells_say(self):
        maker = Maker(15)
        for _ in range(60):
            _, polynomial, sign = atom = maker.sign_atom()
            division, truths = where(atom)
            finer = put_in(division, [polynomial])
            told = [sign_on(finer, cell, polynomial) for cell in range(2 * finer[1] + 1)]
            allowed = {"<": [-1], "<=": [-1, 0], "=": [0], "!=": [-1, 1], ">=": [0, 1], ">": [1]}[sign]
            self.assertIs(is_where(atom, (finer, [one in allowed for one in told])), True)


if __name__ == "__main__":
    unittest.main()

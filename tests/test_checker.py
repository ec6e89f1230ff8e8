import copy
import itertools
import unittest

from helpers import check_new, lists_in
from making import Maker
from searching import exact_point, truth_of
from wheretrue.cells import cells_in, division_of, is_division, is_fine, put_in
from wheretrue.checker import blocks_of, is_paper, paper_of, truth_with
from wheretrue.formulas import atoms_of, replaced
from wheretrue.where import is_where
from wheretrue.witnesses import block_paper, is_block_paper

TWO = [-2, 0, 1]
TRUE, FALSE = ("sign", [1], ">"), ("sign", [1], "<")
# There is an inverse; there is a number less than t and greater than its square.
INVERSE = ("some", 1, [([[0, 1]], [-1], "=")])
BETWEEN = ("some", 1, [([[1]], [0, -1], "<"), ([[-1]], [0, 0, 1], "<")])
YES, NO = ("yes", [([1], [0, 1])]), ("no", [[-1]])


def block(many, *rows):
    return ("some", many, list(rows))


def some_formulas(seed, many):
    """Formulas of every form, with no, one and several blocks."""
    maker = Maker(seed)
    for k in range(many):
        blocks = k % 4
        yield maker.formula(maker.source.randint(0 if blocks else 1, 2), blocks, rows=maker.source.choice([1, 2, 2, 3]))


def with_told(formula, truths):
    """The formula with something true or false for each block, as it is told."""
    told = list(truths)
    atoms = [(TRUE if told.pop(0) else FALSE) if atom[0] == "some" else atom for atom in atoms_of(formula)]
    return replaced(formula, atoms)


class BlocksOfTest(unittest.TestCase):
    def check_blocks(self, formula, expected):
        self.assertEqual(blocks_of(formula), expected)
        check_new(self, blocks_of, formula)

    def test_worked_out(self):
        self.check_blocks(("sign", TWO, "<"), [])
        self.check_blocks(INVERSE, [INVERSE])
        self.check_blocks(("not", INVERSE), [INVERSE])
        self.check_blocks(("and", ("sign", TWO, "<"), ("not", ("not", BETWEEN))), [BETWEEN])
        self.check_blocks(("or", ("and", BETWEEN, ("sign", [], "=")), ("or", INVERSE, ("not", BETWEEN))),
                          [BETWEEN, INVERSE, BETWEEN])

    def test_at_random(self):
        for formula in some_formulas(70, 40):
            self.check_blocks(formula, [atom for atom in atoms_of(formula) if atom[0] == "some"])


class TruthWithTest(unittest.TestCase):
    def check_truths(self, formula, division):
        """On all cells with a number that is known, with each choice of truths."""
        many = len(blocks_of(formula))
        checked = 0
        for cell in range(2 * division[1] + 1):
            t = exact_point(division, cell)
            if t is not None:
                for truths in itertools.product([True, False], repeat=many):
                    found = truth_with(formula, division, cell=cell, truths=list(truths))
                    self.assertIs(found, truth_of(with_told(formula, truths), t), (formula, division, cell, truths))
                    checked += 1
        check_new(self, truth_with, formula, division, cell=0, truths=[True] * many)
        return checked

    def test_worked_out(self):
        formula = ("and", ("sign", TWO, "<="), ("not", INVERSE))
        expected = [False, True, True, True, False]
        for cell, one in enumerate(expected):
            self.assertIs(truth_with(formula, ([TWO], 2), cell=cell, truths=[False]), one)
            self.assertIs(truth_with(formula, ([TWO], 2), cell=cell, truths=[True]), False)
        formula = ("or", ("sign", [0, 1], "="), ("and", INVERSE, BETWEEN))
        for cell, one in enumerate([False, True, False]):
            for truths in itertools.product([True, False], repeat=2):
                found = truth_with(formula, ([[0, 1]], 1), cell=cell, truths=list(truths))
                self.assertIs(found, one or all(truths))

    def test_every_sign(self):
        for sign in ("<", "<=", "=", "!=", ">=", ">"):
            for polynomial in ([], [-1], [0, 1], TWO, [0, 0, 1], [4, 0, -4, 0, 1], [1, 0, 1]):
                for more in ([], [[0, 1]], [TWO, [-1, 2]]):
                    self.check_truths(("sign", polynomial, sign), division_of([polynomial, *more]))

    def test_at_random(self):
        checked = 0
        for formula in some_formulas(71, 60):
            polynomials = [atom[1] for atom in atoms_of(formula) if atom[0] == "sign"]
            for more in ([], [[0, 1], TWO]):
                checked += self.check_truths(formula, division_of(polynomials + more))
        self.assertGreater(checked, 1000)


class PaperOfTest(unittest.TestCase):
    def check_paper(self, formula):
        """Checks the program's paper, its truths, and wrong ones made of it."""
        division, entries, truths = paper = paper_of(formula)
        self.assertIs(is_division(division), True)
        self.assertIs(is_paper(formula, paper), True, (formula, paper))
        self.assertIs(is_where(formula, (division, truths)), True)
        self.assertEqual([len(entries), len(truths)], [2 * division[1] + 1] * 2)
        blocks = blocks_of(formula)
        for k, asked in enumerate(blocks):
            self.assertIs(is_block_paper(asked, (division, [row[k] for row in entries])), True)
        for row in entries:
            self.assertEqual(len(row), len(blocks))
        for cell in range(0, len(truths), 1 + len(truths) // 5):
            self.assertIs(type(truths[cell]), bool)
            t = exact_point(division, cell)
            if t is not None:
                self.assertIs(truth_of(formula, t), truths[cell])
            told = [word == "yes" for word, _ in entries[cell]]
            self.assertIs(truth_with(formula, division, cell=cell, truths=told), truths[cell])
            self.check_wrong(formula, paper, cell)
        return paper

    def check_wrong(self, formula, paper, cell):
        division, entries, truths = paper
        row = entries[cell]
        self.check_is_no_paper(formula, (division, entries, truths[:cell] + [not truths[cell]] + truths[cell + 1:]))
        self.check_is_no_paper(formula, (division, entries, truths[:cell] + truths[cell + 1:]))
        self.check_is_no_paper(formula, (division, entries, truths + truths[cell:cell + 1]))
        self.check_is_no_paper(formula, (division, entries[:cell] + entries[cell + 1:], truths))
        self.check_is_no_paper(formula, (division, entries + entries[cell:cell + 1], truths))
        self.check_is_no_paper(formula, (division, entries[:cell] + [row + [NO]] + entries[cell + 1:], truths))
        for k, (word, polynomials) in enumerate(row):
            for entry in ([], [(word, polynomials[:-1])], [(word, polynomials * 2)], [row[k]] * 2):
                changed = entries[:cell] + [row[:k] + entry + row[k + 1:]] + entries[cell + 1:]
                self.check_is_no_paper(formula, (division, changed, truths))

    def check_is_no_paper(self, formula, paper):
        self.assertIs(is_paper(formula, paper), False, (formula, paper))

    def test_sign_atoms(self):
        for sign in ("<", "<=", "=", "!=", ">=", ">"):
            for polynomial in ([], [-1], [0, 1], TWO, [4, 0, -4, 0, 1], [-2, 0, 0, 1]):
                paper = self.check_paper(("sign", polynomial, sign))
                self.assertEqual(paper[1], [[] for _ in paper[2]])

    def test_worked_out(self):
        for formula in (
            INVERSE, BETWEEN, ("not", INVERSE), ("and", INVERSE, BETWEEN), ("or", INVERSE, ("sign", TWO, "=")),
            ("not", ("or", ("and", BETWEEN, INVERSE), ("not", INVERSE))),
            ("and", ("sign", TWO, "<"), ("not", ("sign", [0, 1], ">="))),
            block(2, ([[0, 1], [1]], [-1], "="), ([[1], [0, 1]], [1], "<=")),
        ):
            self.check_paper(formula)

    def test_at_random(self):
        for formula in some_formulas(72, 80):
            self.check_paper(formula)

    def test_the_greatest_formulas(self):
        maker = Maker(73)
        for _ in range(2):
            formula = maker.formula(6, 3, many=2, rows=5, bound=20)
            paper = paper_of(formula)
            self.assertIs(is_paper(formula, paper), True)
            self.assertIs(is_where(formula, (paper[0], paper[2])), True)

    def test_new_lists(self):
        for formula in some_formulas(74, 16):
            check_new(self, paper_of, formula)
            check_new(self, is_paper, formula, paper_of(formula))

    def test_what_is_handed_in_is_not_kept(self):
        for formula in some_formulas(75, 8):
            handed = copy.deepcopy(formula)
            paper = paper_of(handed)
            expected = copy.deepcopy(paper)
            for one in lists_in(handed):
                one.clear()
            self.assertEqual(paper, expected)


class IsPaperTest(unittest.TestCase):
    """Papers written by hand."""

    def check_is(self, expected, formula, paper):
        self.assertIs(is_paper(formula, paper), expected, (formula, paper))
        check_new(self, is_paper, formula, paper)

    def test_one_block(self):
        self.check_is(True, INVERSE, (([[0, 1]], 1), [[YES], [NO], [YES]], [True, False, True]))
        self.check_is(True, ("not", INVERSE), (([[0, 1]], 1), [[YES], [NO], [YES]], [False, True, False]))
        self.check_is(False, ("not", INVERSE), (([[0, 1]], 1), [[YES], [NO], [YES]], [True, False, True]))
        self.check_is(False, INVERSE, (([[0, 1]], 1), [[YES], [YES], [YES]], [True, True, True]))
        self.check_is(False, INVERSE, (([[0, 1]], 1), [[NO], [NO], [NO]], [False, False, False]))
        self.check_is(False, INVERSE, (([], 0), [[YES]], [True]))
        self.check_is(False, INVERSE, (([], 0), [[NO]], [False]))

    def test_sign_atoms_alone(self):
        self.check_is(True, ("sign", TWO, "<="), (([TWO], 2), [[]] * 5, [False, True, True, True, False]))
        self.check_is(False, ("sign", TWO, "<="), (([TWO], 2), [[]] * 5, [False, True, True, False, False]))
        self.check_is(False, ("sign", TWO, "<="), (([TWO], 2), [[]] * 4, [False, True, True, True, False]))
        self.check_is(False, ("sign", TWO, "<="), (([TWO], 2), [[NO]] * 5, [False, True, True, True, False]))
        self.check_is(True, ("sign", [1, 0, 1], ">"), (([], 0), [[]], [True]))
        self.check_is(False, ("sign", [1, 0, 1], ">"), (([], 0), [[]], []))
        self.check_is(False, ("sign", [1, 0, 1], ">"), (([], 0), [], [True]))
        self.check_is(False, ("sign", [1, 0, 1], ">"), (([], 0), [], []))

    def test_a_division_that_is_not_fine(self):
        # The truth is the same everywhere, but the division has to be fine for the polynomial.
        formula = ("sign", [0, 0, 1], ">=")
        self.check_is(False, formula, (([], 0), [[]], [True]))
        self.check_is(False, formula, (([[-1, 1]], 1), [[]] * 3, [True] * 3))
        self.check_is(True, formula, (([[0, 1]], 1), [[]] * 3, [True] * 3))
        formula = ("or", INVERSE, ("sign", TWO, "="))
        self.check_is(False, formula, (([[0, 1]], 1), [[YES], [NO], [YES]], [True, False, True]))
        entries = [[YES]] * 3 + [[NO]] + [[YES]] * 3
        self.check_is(True, formula, (([[0, 1], TWO], 3), entries, [True] * 3 + [False] + [True] * 3))
        # For the polynomials of a block it does not need to be fine.
        self.check_is(True, block(1, ([[1]], TWO, "<=")), (([], 0), [[("yes", [([1, 0, -1], [1])])]], [True]))

    def test_two_blocks(self):
        formula = ("and", INVERSE, BETWEEN)
        division = ([[-1, 1], [0, 1]], 2)
        no = ("no", [[1], [1]])
        middle = ("yes", [([0, 1, 1], [2])])
        entries = [[YES, no], [NO, no], [YES, middle], [YES, no], [YES, no]]
        truths = [False, False, True, False, False]
        self.check_is(True, formula, (division, entries, truths))
        self.check_is(True, ("or", INVERSE, BETWEEN), (division, entries, [True, False, True, True, True]))
        self.check_is(True, ("not", formula), (division, entries, [True, True, False, True, True]))
        # The entries of the two blocks changed round, on all cells and on one.
        self.check_is(False, formula, (division, [row[::-1] for row in entries], truths))
        self.check_is(True, ("and", BETWEEN, INVERSE), (division, [row[::-1] for row in entries], truths))
        for cell in range(5):
            changed = entries[:cell] + [entries[cell][::-1]] + entries[cell + 1:]
            self.check_is(False, formula, (division, changed, truths))
            for row in ([], entries[cell][:1], entries[cell][1:], entries[cell] + [no], entries[cell] * 2):
                self.check_is(False, formula, (division, entries[:cell] + [row] + entries[cell + 1:], truths))
            self.check_is(False, formula, (division, entries[:cell] + entries[cell + 1:], truths))
            self.check_is(False, formula, (division, entries[:cell] + [entries[cell]] + entries[cell:], truths))
            self.check_is(False, formula, (division, entries, truths[:cell] + truths[cell + 1:]))
            self.check_is(False, formula, (division, entries, truths[:cell] + [truths[cell]] + truths[cell:]))
            self.check_is(False, formula, (division, entries, truths[:cell] + [not truths[cell]] + truths[cell + 1:]))

    def test_the_same_block_twice(self):
        formula = ("and", INVERSE, ("not", INVERSE))
        paper = (([[0, 1]], 1), [[YES, YES], [NO, NO], [YES, YES]], [False, False, False])
        self.check_is(True, formula, paper)
        # It has an entry each time that it stands there, and both have to be right.
        self.check_is(False, formula, (paper[0], [[YES], [NO], [YES]], paper[2]))
        self.check_is(False, formula, (paper[0], [[YES, YES], [NO, YES], [YES, YES]], paper[2]))

    def test_a_finer_division(self):
        for formula in some_formulas(76, 24):
            division, entries, truths = paper_of(formula)
            finer = put_in(division, [[0, 1], [-3, 0, 1], [5, 2, 1]])
            cells = cells_in(finer, division)
            self.check_is(True, formula, (finer, [entries[cell] for cell in cells], [truths[cell] for cell in cells]))
            self.assertIs(is_paper(formula, (finer, entries, truths)), finer[1] == division[1])

    def test_papers_for_other_formulas(self):
        formulas = list(some_formulas(77, 30))
        wrong = 0
        for formula in formulas:
            division, entries, truths = paper_of(formula)
            for other in formulas[:12]:
                blocks = blocks_of(other)
                fine = all(is_fine(division, atom[1]) for atom in atoms_of(other) if atom[0] == "sign")
                expected = fine and len(entries[0]) == len(blocks) and is_where(other, (division, truths))
                for k, asked in enumerate(blocks):
                    expected = expected and is_block_paper(asked, (division, [row[k] for row in entries]))
                self.assertIs(is_paper(other, (division, entries, truths)), expected)
                wrong += not expected
        self.assertGreater(wrong, 200)

    def test_a_paper_of_block_papers(self):
        for asked in (INVERSE, BETWEEN):
            division, entries = block_paper(asked)
            truths = [word == "yes" for word, _ in entries]
            self.check_is(True, asked, (division, [[entry] for entry in entries], truths))
            self.check_is(True, ("not", ("not", asked)), (division, [[entry] for entry in entries], truths))


if __name__ == "__main__":
    unittest.main()

"""The whole program: the examples of the document, and formulas that are carried through all of it."""

import copy
import unittest

from making import Maker
from searching import exact_point, truth_of
from wheretrue import comparing, where as whereabouts
from wheretrue.asking import taken_out
from wheretrue.cells import cell_of, division_of, put_in, sample_of
from wheretrue.checker import blocks_of, is_paper, paper_of, truth_with
from wheretrue.comparing import is_parting, parted
from wheretrue.errors import BadText, WhereError
from wheretrue.families import minors
from wheretrue.formulas import check_formula, pushed, replaced, truth_by
from wheretrue.fractions import fraction
from wheretrue.numbers import plus
from wheretrue.polynomials import false_rest
from wheretrue.reading import read_formula, read_polynomial
from wheretrue.roots import chain_of, floor_of, rational_roots
from wheretrue.sheet import Sheet, replay
from wheretrue.where import is_where, pieces, truth_at, where
from wheretrue.witnesses import is_block_paper, paper_truths
from wheretrue.writing import write_formula, write_polynomial


class ExamplesTest(unittest.TestCase):
    """Every example of the document, in its order."""

    def test_errors_and_numbers(self):
        self.assertTrue(issubclass(WhereError, ValueError))
        self.assertEqual(plus((1, 2), (-1, 2)), (0, 1))

    def test_polynomials(self):
        self.assertEqual(false_rest([1, 0, 1], [1, 2]), [5])

    def test_formulas(self):
        formula = ("not", ("and", ("sign", [0, 1], "<"), ("not", ("sign", [1], "="))))
        self.assertEqual(pushed(formula), ("or", ("sign", [0, 1], ">="), ("sign", [1], "=")))

    def test_texts(self):
        self.assertEqual(read_polynomial("-3,0,1"), [-3, 0, 1])
        self.assertEqual(write_polynomial([-3, 0, 1]), "-3,0,1")
        for word in ("1,0", "00", "-0", "+1", "1,,2", "0,0"):
            self.assertIsNone(read_polynomial(word))
        formula = ("and", ("sign", [-3, 0, 1], "<"), ("not", ("some", 1, [([[0, 1]], [-1], "=")])))
        self.assertEqual(read_formula("and sign -3,0,1 < not some 1 1 0,1 -1 =\n"), formula)
        self.assertEqual(write_formula(formula), "and sign -3,0,1 < not some 1 1 0,1 -1 =\n")
        self.assertRaises(BadText, read_formula, "and sign 1 <\n")

    def test_roots_and_divisions(self):
        self.assertEqual(chain_of([-2, 0, 1]), [[-2, 0, 1], [0, 1], [1]])
        self.assertEqual(floor_of([-2, 0, 1], 1, grid=100), 141)
        self.assertEqual(rational_roots([2, -4, -1, 2]), [(1, 2)])
        self.assertEqual(division_of([[-2, 0, 1], [0, -2, 0, 1]]), ([[0, 1], [-2, 0, 1]], 3))

    def test_asking_and_where(self):
        rows = [([[0, 1]], [-1], "<="), ([[-1]], [0, 0, 1], "<")]
        self.assertEqual(taken_out(rows, 0, signs=[1, -1]), [([], [-1, 0, 0, 1], "<")])
        self.assertEqual(pieces(("sign", [-2, 0, 1], "<="), grid=10), [(-15, True, 14, True)])
        self.assertEqual(pieces(("some", 1, [([[0, 1]], [-1], "=")]), grid=1),
                         [(None, False, 0, False), (0, False, None, False)])

    def test_fractions_and_witnesses(self):
        self.assertEqual(fraction([-1, 0, 1], [2, -2]), ([-1, -1], [2]))
        block = ("some", 1, [([[0, 1]], [-1], "=")])
        entries = [("yes", [([1], [0, 1])]), ("no", [[-1]]), ("yes", [([1], [0, 1])])]
        self.assertIs(is_block_paper(block, (([[0, 1]], 1), entries)), True)

    def test_families(self):
        table = [[[0, 1], [1], [2]], [[1], [0, 1], [3]]]
        self.assertEqual(minors(table, size=2), [[-1, 0, 1], [-2, 3], [3, -2]])

    def test_sheets(self):
        sheet = Sheet()
        sheet.put("far", ("sign", [-4, 0, 1], ">"))
        sheet.put("near", ("not", ("use", "far")))
        self.assertIs(sheet.true_at("near", (2, 1)), True)
        self.assertEqual(sheet.whole("near"), ("not", ("sign", [-4, 0, 1], ">")))


class ThroughTheProgramTest(unittest.TestCase):
    def carry(self, text, other_text):
        """Reads two formulas and does with them all that the program can do."""
        formula, other = read_formula(text), read_formula(other_text)
        before = copy.deepcopy((formula, other))
        self.assertIsNone(check_formula(formula))
        pushed_form = pushed(formula)
        answer = where(formula)
        for one in (formula, pushed_form, ("not", ("not", formula))):
            self.assertIs(is_where(one, answer), True)
        self.check_answer(formula, answer)
        self.check_paper(formula, pushed_form)
        self.check_comparing(formula, other)
        self.check_sheet(formula, other)
        self.assertEqual((formula, other), before)
        self.assertEqual(write_formula(formula), text)
        self.assertEqual(read_formula(write_formula(pushed_form)), pushed_form)

    def check_answer(self, formula, answer):
        division, truths = answer
        for cell, truth in enumerate(truths):
            t = exact_point(division, cell)
            if t is not None:
                self.assertIs(truth_of(formula, t), truth)
            if cell % 2 == 0:
                x = sample_of(division, cell)
                self.assertEqual(cell_of(division, x), cell)
                self.assertIs(truth_at(formula, x), truth)
        found = pieces(formula, grid=10)
        self.assertEqual(found == [], whereabouts.is_empty(formula))
        self.assertEqual(found == [(None, False, None, False)], whereabouts.is_everywhere(formula))
        self.assertEqual(pieces(("not", formula), grid=10) == [], whereabouts.is_everywhere(formula))

    def check_paper(self, formula, pushed_form):
        division, entries, truths = paper = paper_of(formula)
        self.assertIs(is_paper(formula, paper), True)
        # The atoms change their signs, but the blocks and their order stay.
        self.assertIs(is_paper(pushed_form, paper), True)
        self.assertIs(is_where(formula, (division, truths)), True)
        for k, block in enumerate(blocks_of(formula)):
            block_paper = (division, [row[k] for row in entries])
            self.assertIs(is_block_paper(block, block_paper), True)
            self.assertIs(is_where(block, (division, paper_truths(block_paper))), True)
        for cell, row in enumerate(entries):
            told = [word == "yes" for word, _ in row]
            self.assertIs(truth_with(formula, division, cell=cell, truths=told), truths[cell])

    def check_comparing(self, formula, other):
        self.assertIs(comparing.same(formula, pushed(formula)), True)
        told = parted(formula, other)
        self.assertEqual(told is None, comparing.same(formula, other))
        if told:
            self.assertIs(is_parting(formula, other, told=told), True)
        self.assertIs(comparing.follows(("and", formula, other), other), True)
        self.assertIs(comparing.follows(other, ("or", formula, other)), True)

    def check_sheet(self, formula, other):
        sheet = Sheet()
        sheet.do_all([("put", "one", formula), ("put", "two", other), ("put", "both", ("use", "one"))])
        try:
            sheet.put("both", ("and", ("use", "one"), ("use", "two")))
        except WhereError as e:
            # Together they may be too great for one formula.
            with self.assertRaises(type(e)):
                check_formula(("and", formula, other))
        self.assertIs(sheet.follows("both", "one"), True)
        self.assertIs(sheet.same("one", "two"), comparing.same(formula, other))
        for t in ((0, 1), (7, 5), (-3, 1)):
            self.assertIs(sheet.true_at("both", t), truth_at(sheet.whole("both"), t))
        self.assertEqual(write_formula(sheet.whole("one")), write_formula(formula))
        self.assertEqual(replay(sheet.journal()).whole("both"), sheet.whole("both"))

    def test_by_hand(self):
        self.carry("and sign -3,0,1 < not some 1 1 0,1 -1 =\n", "sign 0,1 =\n")
        self.carry("or sign -2,0,1 = some 1 2 1 0,-1 < -1 0,0,1 <\n", "not sign -2,0,1 !=\n")
        self.carry("not and some 2 3 -1 0 0 <= 0 -1 0 <= 1 1 0,-1 <= sign -5,1 <\n", "or sign 0,1 < sign -5,1 >=\n")
        self.carry("sign 0 =\n", "sign 1 >\n")

    def test_the_same_by_another_way(self):
        first = read_formula("some 2 3 -1 0 0 <= 0 -1 0 <= 1 1 0,-1 <=\n")
        second = read_formula("sign 0,1 >=\n")
        self.assertIs(comparing.same(first, second), True)
        self.assertIsNone(parted(first, second))
        self.assertEqual(pieces(first, grid=1000), [(0, True, None, False)])

    def test_at_random(self):
        maker = Maker(120)
        for k in range(40):
            first = maker.formula(maker.source.randint(1, 3), k % 3)
            second = maker.source.choice([maker.formula(1, 1), maker.formula(2, 0), pushed(first)])
            self.carry(write_formula(first), write_formula(second))

    def test_the_greatest(self):
        maker = Maker(121)
        first, second = [maker.formula(6, 3, many=2, rows=5, bound=20) for _ in range(2)]
        self.carry(write_formula(first), write_formula(second))

    def test_a_formula_by_the_truths_of_its_atoms(self):
        maker = Maker(122)
        for _ in range(20):
            formula = maker.formula(3, 1)
            division, truths = where(formula)
            atoms = [("sign", [1], ">") if k % 2 else ("sign", [1], "<") for k in range(4)]
            told = truth_by(formula, [False, True, False, True])
            self.assertIs(whereabouts.is_everywhere(replaced(formula, atoms)), told)
            finer = put_in(division, [[1, 3, 0, 1]])
            self.assertGreaterEqual(finer[1], division[1])
            self.assertEqual(len(truths), 2 * division[1] + 1)


if __name__ == "__main__":
    unittest.main()

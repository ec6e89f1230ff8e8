import copy
import unittest
from fractions import Fraction

from deciding_cells import cells_of, entry_by_words
from helpers import as_number, check_new
from making import ROW_SIGNS, Maker
from searching import exact_point, truth_of
from wheretrue.asking import block_at
from wheretrue.cells import cell_of, division_of, is_division, put_in, sample_of
from wheretrue.errors import NotFine
from wheretrue.fractions import is_fraction
from wheretrue.where import is_where
from wheretrue.witnesses import block_paper, is_block_paper, paper_truths, put_on

BIG = 10 ** 40
TWO = [-2, 0, 1]
INVERSE = ("some", 1, [([[0, 1]], [-1], "=")])
INVERSE_PAPER = (([[0, 1]], 1), [("yes", [([1], [0, 1])]), ("no", [[-1]]), ("yes", [([1], [0, 1])])])


def block(many, *rows):
    return ("some", many, list(rows))


class BlockPaperTest(unittest.TestCase):
    def check_paper(self, asked):
        """Checks the program's paper, its truths at numbers of the cells, and wrong ones made of it."""
        paper = block_paper(asked)
        division, entries = paper
        self.assertIs(is_division(division), True)
        self.assertEqual(len(entries), 2 * division[1] + 1)
        for word, polynomials in entries:
            self.assertEqual(len(polynomials), asked[1] if word == "yes" else len(asked[2]))
            for one in polynomials:
                self.assertTrue(word == "no" or is_fraction(one))
                for a in one if word == "yes" else [one]:
                    self.assertTrue(a == [] or a[-1] != 0)
                    self.assertLessEqual(len(a), 21)
        self.assertIs(is_block_paper(asked, paper), True, (asked, paper))
        truths = paper_truths(paper)
        self.assertEqual(truths, [word == "yes" for word, _ in entries])
        for cell, truth in enumerate(truths):
            t = exact_point(division, cell)
            if t is not None:
                self.assertIs(truth_of(asked, t), truth, (asked, t))
            if cell % 2 == 0:
                self.assertIs(block_at(asked[1], asked[2], sample_of(division, cell)), truth)
        self.assertIs(is_where(asked, (division, truths)), True)
        self.check_wrong(asked, division, entries)
        return paper

    def check_wrong(self, asked, division, entries):
        for wrong in (entries[:-1], entries[1:], entries + entries[-1:], entries + [("no", [])], []):
            self.assertIs(is_block_paper(asked, (division, wrong)), False)
        for cell in range(0, len(entries), 1 + len(entries) // 4):
            word, polynomials = entries[cell]
            for entry in [(word, polynomials[:-1]), (word, polynomials + polynomials[-1:])]:
                changed = entries[:cell] + [entry] + entries[cell + 1:]
                self.assertIs(is_block_paper(asked, (division, changed)), False, (asked, division, changed))

    def test_the_example_of_the_document(self):
        self.assertIs(is_block_paper(INVERSE, INVERSE_PAPER), True)
        check_new(self, is_block_paper, INVERSE, INVERSE_PAPER)
        self.assertEqual(paper_truths(INVERSE_PAPER), [True, False, True])
        self.assertEqual(paper_truths(block_paper(INVERSE)), [True, False, True])
        self.check_paper(INVERSE)

    def test_one_number(self):
        for sign in ROW_SIGNS:
            for a in ([], [1], [-2], [0, 1], TWO, [0, 0, 1], [1, 0, 1], [1, -2, 1], [-1, 1, 1]):
                for c in ([], [1], [-1], [0, -1], [-1, 1], TWO):
                    self.check_paper(block(1, ([a], c, sign)))

    def test_one_number_with_two_rows(self):
        for first in ROW_SIGNS:
            for second in ROW_SIGNS:
                self.check_paper(block(1, ([[1]], [0, -1], first), ([[-1]], [0, 0, 1], second)))
                self.check_paper(block(1, ([[0, 1]], [-1], first), ([[0, 1]], [-2], second)))
                self.check_paper(block(1, ([[0, 1]], [-1], first), ([[0, -1]], [1], second)))
                self.check_paper(block(1, ([TWO], [], first), ([[1]], [-1], second)))
                self.check_paper(block(1, ([TWO], [1], first), ([[2, 0, -1]], [0, 1], second)))

    def test_two_numbers(self):
        for sign in ROW_SIGNS:
            self.check_paper(block(2, ([[], []], [], sign)))
            self.check_paper(block(2, ([[1], []], [0, 1], sign)))
            self.check_paper(block(2, ([[], [0, 1]], [1], sign)))
            self.check_paper(block(2, ([[0, 1], TWO], [1], sign)))
            self.check_paper(block(2, ([TWO, TWO], [1, 1], sign), ([[1], [1]], [], "<=")))
            row = ([[-1], []], [1], sign)
            self.check_paper(block(2, ([[1], [1]], [0, -1], sign), ([[1], [-1]], [0, 1], sign), row))
            self.check_paper(block(2, ([[1], [0, 1]], [-1], sign), ([[0, 1], [1]], [-1], "="), ([[-1], []], [], "<")))
        # A triangle that is a point at 0, and nothing below it.
        paper = self.check_paper(block(2, ([[-1], []], [], "<="), ([[], [-1]], [], "<="), ([[1], [1]], [0, -1], "<=")))
        self.assertIs(is_where(("sign", [0, 1], ">="), (paper[0], paper_truths(paper))), True)

    def test_what_is_left_has_no_edges(self):
        # Both numbers are free, one is, or they are bounded together alone.
        self.check_paper(block(2, ([[], []], [-1], "<"), ([[], []], [], "=")))
        self.check_paper(block(2, ([[], [1]], [-1], "<"), ([[], [-2]], [], "<")))
        self.check_paper(block(2, ([[1], []], [-1], "<"), ([[-2], []], [], "<")))
        self.check_paper(block(2, ([[1], [1]], [-1], "<"), ([[-1], [-1]], [0, 1], "<")))
        self.check_paper(block(2, ([[0, 1], [0, 2]], [-1], "<"), ([[0, -3], [0, -6]], [0, 1], "<=")))
        self.check_paper(block(2, ([[1], [0, 1]], [-1], "<")))
        self.check_paper(block(2, ([[1], [0, 1]], [-1], "="), ([[2], [0, 2]], [-2], "=")))

    def test_truths_at_irrational_roots_alone(self):
        self.check_paper(block(1, ([TWO], [], "="), ([[1]], [-1], "=")))
        self.check_paper(block(2, ([TWO, TWO], [], "="), ([[1], [1]], [-1], "=")))
        self.check_paper(block(1, ([[]], [4, 0, -2], "<=")))
        paper = self.check_paper(block(1, ([[0, 1]], [-2], "="), ([[1]], [0, -1], "=")))
        self.assertIs(is_where(("sign", TWO, "="), (paper[0], paper_truths(paper))), True)
        paper = self.check_paper(block(1, ([TWO], [1], "=")))
        self.assertIs(is_where(("sign", TWO, "!="), (paper[0], paper_truths(paper))), True)

    def test_five_rows(self):
        for sign in ROW_SIGNS:
            rows = [([[1], [1]], [0, -3], sign), ([[1], [-1]], [0, 0, -1], "<="), ([[-1], []], [0, 1], "<="),
                    ([[], [-1]], [-1], "<"), ([[-1], [2]], [2, -5], "<=")]
            self.check_paper(block(2, *rows))
            self.check_paper(block(1, *[(a[:1], c, row_sign) for a, c, row_sign in rows]))

    def test_at_random(self):
        maker = Maker(60)
        seen = set()
        for _ in range(250):
            asked = maker.block()
            truths = paper_truths(self.check_paper(asked))
            seen.add((asked[1], len(asked[2]), True in truths, False in truths))
        self.assertGreaterEqual(len(seen), 24)

    def test_the_greatest_blocks(self):
        maker = Maker(61)
        for _ in range(12):
            self.check_paper(maker.block(many=2, rows=5, bound=20, signs=("<", "<=")))
            self.check_paper(maker.block(many=2, rows=5, bound=20))

    def test_new_lists(self):
        maker = Maker(62)
        for _ in range(30):
            asked = maker.block()
            check_new(self, block_paper, asked)
            paper = block_paper(asked)
            check_new(self, is_block_paper, asked, paper)
            check_new(self, paper_truths, paper)
            check_new(self, put_on, paper, put_in(paper[0], [[0, 1], TWO]))


class IsBlockPaperTest(unittest.TestCase):
    def check_is(self, expected, asked, division, entries):
        self.assertIs(is_block_paper(asked, (division, entries)), expected, (asked, division, entries))
        check_new(self, is_block_paper, asked, (division, entries))

    def test_an_entry_changed(self):
        division, entries = INVERSE_PAPER
        for cell in range(3):
            for entry in (("yes", [([1], [1])]), ("yes", [([], [1])]), ("no", [[1]]), ("no", [[]]), ("yes", []),
                          ("no", []), ("no", [[-1], [-1]]), ("yes", [([1], [0, 1])] * 2)):
                self.check_is(False, INVERSE, division, entries[:cell] + [entry] + entries[cell + 1:])
        self.check_is(False, INVERSE, division, [entries[0], entries[0], entries[0]])
        self.check_is(False, INVERSE, division, [entries[1], entries[1], entries[1]])

    def test_an_entry_left_out_or_more(self):
        division, entries = INVERSE_PAPER
        for wrong in ([], entries[:1], entries[:2], entries[1:], entries + entries[:1], entries + entries[1:2],
                      entries + entries[:2], entries + entries):
            self.check_is(False, INVERSE, division, wrong)
        self.check_is(False, INVERSE, ([], 0), entries)
        self.check_is(False, INVERSE, ([], 0), entries[:1])
        self.check_is(False, INVERSE, ([], 0), [])

    def test_other_divisions(self):
        yes, no, _ = INVERSE_PAPER[1]
        self.check_is(True, INVERSE, ([[-1, 1], [0, 1]], 2), [yes, no, yes, yes, yes])
        self.check_is(True, INVERSE, ([[-1, 1], [0, 1]], 2), [yes, no, yes, ("yes", [([1], [1])]), yes])
        self.check_is(False, INVERSE, ([[-1, 1], [0, 1]], 2), [yes, yes, yes, no, yes])
        self.check_is(True, INVERSE, ([[0, -2, 0, 1]], 3), [yes, yes, yes, no, yes, yes, yes])
        self.check_is(True, INVERSE, ([[0, -2, 0, 1]], 3), [yes, yes, yes, no, yes, ("yes", [([0, 1], [2])]), yes])
        self.check_is(False, INVERSE, ([[0, -2, 0, 1]], 3), [yes, yes, yes, no, ("yes", [([0, 1], [2])]), yes, yes])
        self.check_is(False, INVERSE, ([TWO], 2), [yes, yes, no, yes, yes])
        self.check_is(True, INVERSE, ([[0, 1], [1, 0, 1]], 1), [yes, no, yes])

    def test_by_hand(self):
        # Some number is less than t and more than its square: between 0 and 1.
        asked = block(1, ([[1]], [0, -1], "<"), ([[-1]], [0, 0, 1], "<"))
        no = ("no", [[1], [1]])
        division = ([[-1, 1], [0, 1]], 2)
        middle = ("yes", [([0, 1, 1], [2])])
        self.check_is(True, asked, division, [no, no, middle, no, no])
        self.check_is(True, asked, division, [("no", [[3], [3]]), no, middle, no, ("no", [[0, 1], [0, 1]])])
        self.check_is(False, asked, division, [("no", [[0, 1], [0, 1]]), no, middle, no, no])
        self.check_is(False, asked, division, [no, no, no, no, no])
        self.check_is(False, asked, division, [no, middle, middle, no, no])
        self.check_is(False, asked, division, [no, no, ("yes", [([0, 1], [1])]), no, no])
        self.check_is(False, asked, ([[0, 1]], 1), [no, no, middle])
        self.check_is(False, asked, ([], 0), [middle])
        self.check_is(False, asked, ([], 0), [no])

    def test_entries_of_other_cells(self):
        maker = Maker(63)
        wrong = 0
        for _ in range(120):
            asked = maker.block(bound=3)
            division, entries = block_paper(asked)
            numbers = [exact_point(division, cell) for cell in range(1, 2 * division[1] + 1, 2)]
            if not all(isinstance(x, Fraction) for x in numbers):
                continue
            cells = cells_of(numbers)
            for cell in range(len(entries)):
                for other in entries[:6]:
                    expected = entry_by_words(asked, other, cells[cell])
                    changed = entries[:cell] + [other] + entries[cell + 1:]
                    self.assertIs(is_block_paper(asked, (division, changed)), expected)
                    wrong += not expected
        self.assertGreater(wrong, 50)


class PutOnTest(unittest.TestCase):
    def test_the_same_division(self):
        self.assertEqual(put_on(INVERSE_PAPER, ([[0, 1]], 1)), INVERSE_PAPER)
        check_new(self, put_on, INVERSE_PAPER, ([[0, 1]], 1))

    def test_finer_ones(self):
        yes, no, _ = INVERSE_PAPER[1]
        for division, expected in [
            (([[-1, 1], [0, 1]], 2), [yes, no, yes, yes, yes]),
            (([[0, 1], TWO], 3), [yes, yes, yes, no, yes, yes, yes]),
            (([[0, -2, 0, 1]], 3), [yes, yes, yes, no, yes, yes, yes]),
            (([[0, 1], [1, 0, 1]], 1), [yes, no, yes]),
        ]:
            self.assertEqual(put_on(INVERSE_PAPER, division), (division, expected))
            self.assertIs(is_block_paper(INVERSE, put_on(INVERSE_PAPER, division)), True)
            check_new(self, put_on, INVERSE_PAPER, division)
        whole = (([], 0), [("no", [[1]])])
        self.assertEqual(put_on(whole, ([TWO], 2)), (([TWO], 2), [("no", [[1]])] * 5))

    def test_parts_without_roots(self):
        # A division is finer if the roots of the other one are among its own, whatever its parts are.
        paper = (([[1, 0, 1]], 0), [("no", [[1]])])
        self.assertEqual(put_on(paper, ([], 0)), (([], 0), [("no", [[1]])]))
        self.assertEqual(put_on(paper, ([[0, 1]], 1)), (([[0, 1]], 1), [("no", [[1]])] * 3))
        check_new(self, put_on, paper, ([[0, 1]], 1))

    def test_not_fine(self):
        for division in (([], 0), ([[-1, 1]], 1), ([TWO], 2), ([[1, 0, 1]], 0)):
            with self.assertRaises(NotFine):
                put_on(INVERSE_PAPER, division)
        paper = block_paper(block(1, ([TWO], [1], "=")))
        for division in (([], 0), ([[0, 1]], 1), ([[-3, 0, 1]], 2)):
            handed = copy.deepcopy((paper, division))
            with self.assertRaises(NotFine):
                put_on(paper, division)
            self.assertEqual((paper, division), handed)

    def test_at_random(self):
        maker = Maker(64)
        for _ in range(60):
            asked = maker.block(bound=4)
            paper = block_paper(asked)
            more = [maker.polynomial(3, 5) for _ in range(2)]
            division = put_in(paper[0], more)
            finer = put_on(paper, division)
            self.assertEqual(finer[0], division)
            self.assertIs(is_block_paper(asked, finer), True)
            for cell in range(0, len(finer[1]), 2):
                lies_in = cell_of(paper[0], sample_of(division, cell))
                self.assertEqual(finer[1][cell], paper[1][lies_in])
            if put_in(division_of(more), paper[0][0])[1] > division_of(more)[1]:
                with self.assertRaises(NotFine):
                    put_on(paper, division_of(more))


class PaperTruthsTest(unittest.TestCase):
    def test_by_the_entries(self):
        yes, no = ("yes", [([1], [0, 1])]), ("no", [[-1]])
        for words in ([yes], [no], [yes, no, yes], [no, no, yes], [yes, yes, yes, no, no]):
            paper = (([], 0), words)
            self.assertEqual(paper_truths(paper), [one is yes for one in words])
            check_new(self, paper_truths, paper)

    def test_at_numbers(self):
        maker = Maker(65)
        for _ in range(60):
            asked = maker.block()
            paper = block_paper(asked)
            truths = paper_truths(paper)
            for t in (Fraction(0), Fraction(1), Fraction(-7, 3), Fraction(BIG, 3)):
                self.assertIs(truths[cell_of(paper[0], as_number(t))], truth_of(asked, t))


if __name__ == "__main__":
    unittest.main()

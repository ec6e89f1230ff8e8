"""The functions and the sheet of the interface: in which file they are defined, and the names of their arguments."""

import importlib
import inspect
import unittest

INTERFACE = {
    "numbers": [
        "is_number(value)", "is_short(value)", "number(n, d)", "compare(a, b)", "plus(a, b)", "minus(a, b)",
        "times(a, b)", "divided(a, b)", "total(numbers)",
    ],
    "polynomials": [
        "check_polynomial(polynomial, *, most, bound)", "trimmed(coefficients)", "add(a, b)", "subtract(a, b)",
        "multiply(a, b)", "scale(a, factor)", "derivative(a)", "value_at(a, x)", "content(a)", "plain(a)",
        "false_rest(a, b)", "divides(a, b)", "quotient(a, b)", "common_divisor(a, b)", "square_free(a)",
        "product(polynomials)",
    ],
    "formulas": [
        "check_formula(formula)", "atoms_of(formula)", "polynomials_of(formula)", "size_of(formula)",
        "replaced(formula, atoms)", "truth_by(formula, truths)", "pushed(formula)",
    ],
    "reading": ["words_of(line)", "read_polynomial(word)", "read_formula(text)"],
    "writing": ["write_polynomial(polynomial)", "write_formula(formula)"],
    "roots": [
        "sign_at(a, x)", "chain_of(p)", "variations(chain, x)", "variations_far(chain, *, right)",
        "count_between(p, x, y)", "count_roots(p)", "bound_of(p)", "intervals_of(p, *, width)",
        "are_intervals(p, intervals, *, width)", "floor_of(p, place, *, grid)", "compare_root(p, place, x)",
        "sign_at_root(p, place, a)", "rational_roots(a)",
    ],
    "cells": [
        "is_division(value)", "division_of(polynomials)", "put_in(division, polynomials)", "cell_of(division, x)",
        "root_of(division, cell)", "sample_of(division, cell)", "is_fine(division, a)", "sign_on(division, cell, a)",
        "signs_on(division, a)", "cells_in(finer, division)",
    ],
    "asking": [
        "fits(sign, value)", "taken_out(rows, k, *, signs)", "signs_at(rows, k, t)", "block_at(many, rows, t)",
        "numbers_at(many, rows, t)", "fulfilled_at(rows, numbers, t)",
    ],
    "where": [
        "truth_at(formula, t)", "where(formula)", "is_where(formula, answer)", "pieces(formula, *, grid)",
        "is_empty(formula)", "is_everywhere(formula)",
    ],
    "fractions": [
        "is_fraction(value)", "fraction(p, q)", "from_number(x)", "sum_of(f, g)", "difference_of(f, g)",
        "product_of(f, g)", "quotient_of(f, g)", "value_of(f, x)", "inserted(p, f)",
        "fraction_sign(f, division, *, cell)",
    ],
    "witnesses": [
        "row_sum(row, fractions)", "are_witnesses(block, division, fractions, *, cell)",
        "are_against(block, division, polynomials, *, cell)", "block_paper(block)", "is_block_paper(block, paper)",
        "put_on(paper, division)", "paper_truths(paper)",
    ],
    "checker": [
        "blocks_of(formula)", "truth_with(formula, division, *, cell, truths)", "is_paper(formula, paper)",
        "paper_of(formula)",
    ],
    "families": [
        "check_family(family)", "kind_at(family, x)", "minors(table, *, size)", "kinds_of(family)",
        "solve(family, division, cell)", "solves(family, division, cell, fractions)",
    ],
    "sheet": ["replay(journal)"],
    "comparing": [
        "follows(first, second)", "same(first, second)", "parted(first, second)",
        "is_parting(first, second, *, told)",
    ],
}
SHEET = [
    "put(self, name, condition)", "remove(self, name)", "rename(self, name, other)", "undo(self)", "redo(self)",
    "do_all(self, deeds)", "names(self)", "condition(self, name)", "whole(self, name)", "users(self, name)",
    "true_at(self, name, t)", "same(self, name, other)", "follows(self, name, other)", "journal(self)",
]


class InterfaceTest(unittest.TestCase):
    def test_functions(self):
        for file, functions in INTERFACE.items():
            module = importlib.import_module("wheretrue." + file)
            for told in functions:
                function = getattr(module, told.split("(")[0])
                self.assertEqual(function.__module__, "wheretrue." + file)
                self.assertEqual(function.__name__ + str(inspect.signature(function)), told)

    def test_the_sheet(self):
        sheet = importlib.import_module("wheretrue.sheet").Sheet
        self.assertEqual(sheet.__module__, "wheretrue.sheet")
        self.assertEqual(str(inspect.signature(sheet)), "()")
        for told in SHEET:
            method = vars(sheet)[told.split("(")[0]]
            self.assertEqual(method.__name__ + str(inspect.signature(method)), told)
        for name in ("__len__", "__contains__"):
            self.assertIn(name, vars(sheet))
        for name in ("can_undo", "can_redo"):
            self.assertIsInstance(vars(sheet)[name], property)


if __name__ == "__main__":
    unittest.main()

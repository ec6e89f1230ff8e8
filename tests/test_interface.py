"""The functions of the interface: in which file they are defined, and the names of their arguments."""

import importlib
import inspect
import unittest

INTERFACE = {
    "numbers": [
        "is_number(value)", "is_short(value)", "number(n, d)", "compare(a, b)", "plus(a, b)", "minus(a, b)",
        "times(a, b)", "divided(a, b)", "total(numbers)",
    ],
    "polynomials": [
        "check_polynomial(polynomial, *, most, bound)", "trimmed(coefficients)", "add(a, b)", "subtract(a, b)",
        "multiply(a, b)", "scale(a, factor)", "derivative(a)", "value_at(a, x)", "content(a)", "plain(a)",
        "false_rest(a, b)", "divides(a, b)", "quotient(a, b)", "common_divisor(a, b)", "square_free(a)",
        "product(polynomials)",
    ],
    "formulas": [
        "check_formula(formula)", "atoms_of(formula)", "polynomials_of(formula)", "size_of(formula)",
        "replaced(formula, atoms)", "truth_by(formula, truths)", "pushed(formula)",
    ],
    "reading": ["words_of(line)", "read_polynomial(word)", "read_formula(text)"],
    "writing": ["write_polynomial(polynomial)", "write_formula(formula)"],
    "roots": [
        "sign_at(a, x)", "chain_of(p)", "variations(chain, x)", "variations_far(chain, *, right)",
        "count_between(p, x, y)", "count_roots(p)", "bound_of(p)", "intervals_of(p, *, width)",
        "are_intervals(p, intervals, *, width)", "floor_of(p, place, *, grid)", "compare_root(p, place, x)",
        "sign_at_root(p, place, a)", "rational_roots(a)",
    ],
    "cells": [
        "is_division(value)", "division_of(polynomials)", "put_in(division, polynomials)", "cell_of(division, x)",
        "root_of(division, cell)", "sample_of(division, cell)", "is_fine(division, a)", "sign_on(division, cell, a)",
        "signs_on(division, a)", "cells_in(finer, division)",
    ],
}


class InterfaceTest(unittest.TestCase):
    def test_functions(self):
        for file, functions in INTERFACE.items():
            module = importlib.import_module("wheretrue." + file)
            for told in functions:
                function = getattr(module, told.split("(")[0])
                self.assertEqual(function.__module__, "wheretrue." + file)
                self.assertEqual(function.__name__ + str(inspect.signature(function)), told)


if __name__ == "__main__":
    unittest.main()

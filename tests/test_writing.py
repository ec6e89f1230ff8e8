import unittest

from helpers import check_new
from wheretrue.formulas import check_formula
from wheretrue.writing import write_formula, write_polynomial

LOW = ("sign", [-1, 1], "<")


class WritePolynomialTest(unittest.TestCase):
    def test_written_forms(self):
        for polynomial, written in [
            ([], "0"), ([1], "1"), ([-1], "-1"), ([0, 1], "0,1"), ([-3, 0, 1], "-3,0,1"),
            ([999, -999, 10], "999,-999,10"), ([0] * 11 + [-100], "0,0,0,0,0,0,0,0,0,0,0,-100"),
            ([-10, 100, -7, 0, 0, 20], "-10,100,-7,0,0,20"),
        ]:
            self.assertEqual(write_polynomial(polynomial), written)
            check_new(self, write_polynomial, polynomial)

    def test_each_coefficient(self):
        for number in range(1, 1000):
            sign_less = "".join(["0123456789"[number // power % 10] for power in (100, 10, 1)]).lstrip("0")
            self.assertEqual(write_polynomial([number]), sign_less)
            self.assertEqual(write_polynomial([-number]), "-" + sign_less)
            self.assertEqual(write_polynomial([0, -number, number]), "0,-" + sign_less + "," + sign_less)


class WriteFormulaTest(unittest.TestCase):
    def check_written(self, formula, written):
        check_formula(formula)
        self.assertEqual(write_formula(formula), written)
        check_new(self, write_formula, formula)

    def test_sign_atoms(self):
        for sign in ("<", "<=", "=", "!=", ">=", ">"):
            self.check_written(("sign", [-2, 0, 1], sign), "sign -2,0,1 " + sign + "\n")
        self.check_written(("sign", [], "!="), "sign 0 !=\n")

    def test_blocks(self):
        self.check_written(("some", 1, [([[0, 1]], [-1], "=")]), "some 1 1 0,1 -1 =\n")
        self.check_written(
            ("some", 2, [([[1], [0, 0, 2]], [], "<"), ([[], [3, -1]], [5, 0, 19], "<=")]),
            "some 2 2 1 0,0,2 0 < 0 3,-1 5,0,19 <=\n",
        )
        self.check_written(
            ("some", 1, [([[k]], [0, k], sign) for k, sign in zip(range(1, 6), ["<", "=", "<=", "=", "<"])]),
            "some 1 5 1 0,1 < 2 0,2 = 3 0,3 <= 4 0,4 = 5 0,5 <\n",
        )

    def test_joined_formulas(self):
        self.check_written(("not", LOW), "not sign -1,1 <\n")
        self.check_written(("and", LOW, ("sign", [5], "=")), "and sign -1,1 < sign 5 =\n")
        self.check_written(("or", ("sign", [5], "="), LOW), "or sign 5 = sign -1,1 <\n")
        self.check_written(
            ("or", ("not", ("and", LOW, ("not", LOW))), ("and", ("or", LOW, LOW), ("not", ("not", LOW)))),
            "or not and sign -1,1 < not sign -1,1 < and or sign -1,1 < sign -1,1 < not not sign -1,1 <\n",
        )

    def test_the_example_of_the_document(self):
        self.check_written(
            ("and", ("sign", [-3, 0, 1], "<"), ("not", ("some", 1, [([[0, 1]], [-1], "=")]))),
            "and sign -3,0,1 < not some 1 1 0,1 -1 =\n",
        )


if __name__ == "__main__":
    unittest.main()

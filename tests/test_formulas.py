import copy
import itertools
import unittest
from fractions import Fraction

from helpers import check_new
from wheretrue.errors import BadForm, BadNumber, BadSign, BadSize, TooDeep
from wheretrue.formulas import (
    atoms_of, check_formula, polynomials_of, pushed, replaced, size_of, truth_by,
)

SIGNS = ("<", "<=", "=", "!=", ">=", ">")
LOW = ("sign", [-1, 1], "<")
SQUARE = ("sign", [-2, 0, 1], ">=")
ROOT = ("sign", [0, 1], "=")
ONE = ("some", 1, [([[0, 1]], [-1], "=")])
TWO = ("some", 2, [([[1], [0, 0, 2]], [], "<"), ([[], [3, -1]], [5, 0, 19], "<=")])
MIXED = ("not", ("and", LOW, ("not", ("or", ONE, SQUARE))))
WIDE = ("or", ("and", ("not", TWO), LOW), ("not", ("and", ("not", ("not", ROOT)), ("or", ONE, ONE))))
DEEP = ("not", ("or", ("not", ("and", SQUARE, ("not", ONE))), ("and", ("not", ("not", ("not", TWO))), ROOT)))
FORMULAS = [
    LOW, SQUARE, ONE, TWO, ("sign", [], "!="),
    ("not", LOW), ("not", TWO), ("not", ("not", ONE)), ("and", LOW, LOW), ("or", TWO, ROOT),
    MIXED, WIDE, DEEP,
]


def negated(many, formula):
    """The formula with so many "not" in front of it."""
    for _ in range(many):
        formula = ("not", formula)
    return formula


def joined(word, formulas):
    """Two formulas each joined by the word, then two of these, and so on."""
    while len(formulas) > 1:
        pairs = [formulas[k:k + 2] for k in range(0, len(formulas), 2)]
        formulas = [(word, *pair) if len(pair) == 2 else pair[0] for pair in pairs]
    return formulas[0]


def row(coefficients, constant=(), sign="<"):
    return ([list(c) for c in coefficients], list(constant), sign)


def block(many, *rows):
    return ("some", many, list(rows))


class CheckFormulaTest(unittest.TestCase):
    def check_raises(self, error, formula):
        before = copy.deepcopy(formula)
        with self.assertRaises(error) as caught:
            check_formula(formula)
        self.assertIs(caught.exception.__class__, error, formula)
        self.assertEqual(formula, before)

    def check_right(self, formula):
        self.assertIsNone(check_formula(formula), formula)

    def check_raises_everywhere(self, error, part):
        """The part is wrong at each place where it can stand, and comes before what stands right of it."""
        self.check_raises(error, part)
        for word in ("and", "or"):
            self.check_raises(error, (word, part, LOW))
            self.check_raises(error, (word, ONE, part))
            self.check_raises(error, (word, part, ("unless", LOW)))
            self.check_raises(error, (word, part, negated(7, LOW)))
        self.check_raises(error, negated(6, part))
        self.check_raises(error, joined("and", [part] + [LOW] * 7))

    def test_right_formulas(self):
        for formula in FORMULAS:
            self.check_right(formula)

    def test_depth(self):
        for atom in (LOW, ONE):
            self.check_right(negated(6, atom))
            self.check_raises(TooDeep, negated(7, atom))
            self.check_raises(TooDeep, negated(30, atom))
            for word in ("and", "or"):
                self.check_right((word, LOW, negated(5, atom)))
                self.check_raises(TooDeep, (word, LOW, negated(6, atom)))
                self.check_raises(TooDeep, (word, negated(6, atom), LOW))
        chain = LOW
        for word in ("and", "or", "and", "or", "and"):
            chain = (word, LOW, chain)
        self.check_right(("not", chain))
        self.check_raises(TooDeep, ("not", ("not", chain)))

    def test_forms(self):
        for part in [
            ("use", "near"), ("xor", LOW, LOW), ("", LOW), ("Sign", [1], "<"), ("all", 1, []), ("signs", [1], "<"),
            ("sign",), ("sign", [1]), ("sign", [1], "<", 1), ("some", 1), ("some", 1, [], 1), ("some",),
            ("not",), ("not", LOW, LOW), ("and",), ("and", LOW), ("and", LOW, LOW, LOW), ("or", LOW),
            ("or", LOW, LOW, LOW),
        ]:
            self.check_raises_everywhere(BadForm, part)

    def test_polynomials_of_sign_atoms(self):
        self.check_right(("sign", [99, -99, 0, 0, -99], "<"))
        self.check_right(("sign", [], "<"))
        for error, polynomial in [
            (BadSize, [0, 0, 0, 0, 0, 1]), (BadSize, [None] * 6), (BadNumber, [100]), (BadNumber, [-100, 1]),
            (BadNumber, [0, 0, 0, 0, 100]), (BadNumber, [0]), (BadNumber, [1, 0]), (BadNumber, [True]),
            (BadNumber, [1, False]), (BadNumber, [None]), (BadNumber, ["1"]), (BadNumber, [1.0]), (BadNumber, [[1]]),
        ]:
            self.check_raises_everywhere(error, ("sign", polynomial, "<"))
            self.check_raises(error, ("sign", polynomial, "=="))

    def test_signs_of_sign_atoms(self):
        for sign in SIGNS:
            self.check_right(("sign", [1], sign))
        for sign in ("", "==", "<>", "=<", "=>", "!", "< ", "lt", "\u2264"):
            self.check_raises_everywhere(BadSign, ("sign", [1], sign))

    def test_how_many_numbers_are_asked_for(self):
        self.check_right(block(1, row([[1]])))
        self.check_right(block(2, row([[1], [2]])))
        for many in (0, 3, -1, 10 ** 30, True, False, None, 1.0, 2.0, "1", [1], (1,), Fraction(1)):
            self.check_raises_everywhere(BadSize, block(many, row([[1]])))
            self.check_raises(BadSize, block(many, row([[None]], sign=">")))
        self.check_raises(BadSize, block(0, row([])))
        self.check_raises(BadSize, block(3, row([[1], [1], [1]])))

    def test_how_many_rows(self):
        for many in range(1, 6):
            self.check_right(block(1, *[row([[1]])] * many))
        for many in (0, 6, 7):
            self.check_raises_everywhere(BadSize, block(1, *[row([[1]])] * many))
            self.check_raises(BadSize, block(2, *[row([[1], [None]], sign=">")] * many))

    def test_how_many_coefficients(self):
        for many, coefficients in [(1, []), (1, [[1], [1]]), (2, [[1]]), (2, []), (2, [[1], [1], [1]])]:
            right = row([[1]] * many)
            self.check_raises_everywhere(BadSize, block(many, row(coefficients)))
            self.check_raises(BadSize, block(many, right, row(coefficients)))
            self.check_raises(BadSize, block(many, row([[None]] * len(coefficients), [0], ">")))

    def test_polynomials_of_rows(self):
        self.check_right(block(2, row([[19, -19, 19], []], [-19, 19, -19], "=")))
        for error, polynomial in [
            (BadSize, [0, 0, 0, 1]), (BadSize, [None] * 4), (BadNumber, [20]), (BadNumber, [1, -20, 1]),
            (BadNumber, [0]), (BadNumber, [1, 0]), (BadNumber, [True]), (BadNumber, [None]), (BadNumber, [2.0]),
        ]:
            self.check_raises_everywhere(error, block(2, row([polynomial, [1]])))
            self.check_raises_everywhere(error, block(2, row([[1], polynomial])))
            self.check_raises_everywhere(error, block(2, row([[1], [1]], polynomial)))
            self.check_raises(error, block(1, row([[1]]), row([polynomial], [1], ">")))
            self.check_raises(error, block(1, row([[1]]), row([[1]], polynomial, ">")))

    def test_signs_of_rows(self):
        for sign in ("<", "<=", "="):
            self.check_right(block(1, row([[1]], [1], sign)))
        for sign in (">", ">=", "!=", "==", "", "=<"):
            self.check_raises_everywhere(BadSign, block(1, row([[1]], [1], sign)))
            self.check_raises(BadSign, block(2, row([[1], []]), row([[], [1]], [], sign)))

    def test_order_in_a_row_and_from_row_to_row(self):
        low, high, wide = [0], [0, 0, 0, 1], row([[1], [1]])
        self.check_raises(BadNumber, block(2, row([low, high])))
        self.check_raises(BadSize, block(2, row([high, low])))
        self.check_raises(BadNumber, block(2, row([[1], low], high)))
        self.check_raises(BadSize, block(2, row([[1], high], low)))
        self.check_raises(BadSign, block(1, row([[1]], [1], ">"), row([low])))
        self.check_raises(BadSign, block(1, row([[1]], [1], ">"), wide))
        self.check_raises(BadSize, block(1, wide, row([[1]], [1], ">")))
        self.check_raises(BadNumber, block(1, row([low]), wide))
        self.check_raises(BadNumber, block(1, row([[1]], low), row([[1]], [1], ">")))

    def test_order_from_the_outside_to_the_inside_and_from_left_to_right(self):
        form, sign, number, size = ("use", "a"), ("sign", [1], "~"), ("sign", [0], "<"), block(0)
        for word in ("and", "or"):
            for first, second in itertools.permutations([(form, BadForm), (sign, BadSign), (number, BadNumber),
                                                         (size, BadSize), (negated(6, LOW), TooDeep)], 2):
                self.check_raises(first[1], (word, first[0], second[0]))
                self.check_raises(first[1], (word, ("not", (word, LOW, first[0])), second[0]))
                self.check_raises(first[1], (word, LOW, (word, first[0], second[0])))
            self.check_raises(BadForm, (word, sign, number, size))
            self.check_raises(BadForm, (word, sign))
            self.check_raises(BadForm, ("not", sign, LOW))
            self.check_raises(BadForm, (word, LOW, ("not", sign, number)))

    def test_a_part_that_stands_too_deep_is_not_looked_at(self):
        for part in (("use", "a"), ("sign", [0], "~"), ("sign", [1], "~"), block(0), ("not",)):
            self.check_raises(TooDeep, negated(7, part))
        self.check_raises(BadForm, negated(6, ("and", LOW)))
        self.check_raises(TooDeep, negated(6, ("and", ("use", "a"), ("sign", [0], "<"))))

    def test_how_many_sign_atoms(self):
        self.check_right(joined("and", [LOW] * 6))
        self.check_right(joined("or", [LOW] * 6 + [ONE] * 3))
        for many in (7, 8, 64):
            self.check_raises(BadSize, joined("or", [LOW] * many))
        self.check_raises(BadSize, joined("and", [ONE] + [LOW] * 7))

    def test_how_many_blocks(self):
        self.check_right(joined("and", [TWO] * 3))
        for many in (4, 5, 64):
            self.check_raises(BadSize, joined("and", [TWO] * many))
        self.check_raises(BadSize, joined("or", [LOW] + [ONE] * 4))

    def test_how_many_atoms_comes_last(self):
        many = [LOW] * 7 + [ONE] * 4
        self.check_raises(BadSign, joined("and", many + [("sign", [1], "~")]))
        self.check_raises(BadNumber, joined("and", many + [("sign", [0], "~")]))
        self.check_raises(BadForm, joined("and", many + [("use", "a")]))
        self.check_raises(TooDeep, ("or", joined("and", many), negated(6, LOW)))


class PartsTest(unittest.TestCase):
    def test_atoms_of(self):
        for formula, expected in [
            (LOW, [LOW]), (TWO, [TWO]), (negated(6, ONE), [ONE]), (("and", LOW, ONE), [LOW, ONE]),
            (("or", ONE, LOW), [ONE, LOW]), (("and", LOW, LOW), [LOW, LOW]),
            (MIXED, [LOW, ONE, SQUARE]), (WIDE, [TWO, LOW, ROOT, ONE, ONE]),
            (DEEP, [SQUARE, ONE, TWO, ROOT]),
        ]:
            self.assertEqual(atoms_of(formula), expected)

    def test_polynomials_of(self):
        two = [[1], [0, 0, 2], [], [], [3, -1], [5, 0, 19]]
        for formula, expected in [
            (LOW, [[-1, 1]]), (("sign", [], "!="), [[]]), (ONE, [[0, 1], [-1]]), (TWO, two),
            (("not", ("and", ("not", TWO), LOW)), two + [[-1, 1]]), (("or", LOW, TWO), [[-1, 1]] + two),
            (("and", LOW, LOW), [[-1, 1], [-1, 1]]),
        ]:
            self.assertEqual(polynomials_of(formula), expected)

    def test_size_of(self):
        for formula, expected in [
            (LOW, (1, 0, 0)), (TWO, (0, 1, 0)), (("not", LOW), (1, 0, 1)), (negated(6, ONE), (0, 1, 6)),
            (("and", LOW, LOW), (2, 0, 1)), (("or", ONE, ("not", LOW)), (1, 1, 2)),
            (("or", ("not", ("not", ONE)), LOW), (1, 1, 3)),
            (MIXED, (2, 1, 4)), (WIDE, (2, 3, 5)), (DEEP, (2, 2, 6)),
            (joined("and", [LOW] * 6 + [ONE] * 3), (6, 3, 4)),
        ]:
            self.assertEqual(size_of(formula), expected)
            self.assertIs(size_of(formula).__class__, tuple)

    def test_replaced(self):
        other = ("and", ("not", LOW), TWO)
        for formula, atoms, expected in [
            (LOW, [other], other), (ONE, [ROOT], ROOT), (("not", LOW), [other], ("not", other)),
            (("and", LOW, ONE), [ONE, LOW], ("and", ONE, LOW)), (("or", LOW, LOW), [other, ROOT], ("or", other, ROOT)),
            (
                WIDE, [("not", ROOT), SQUARE, other, LOW, TWO],
                ("or", ("and", ("not", ("not", ROOT)), SQUARE),
                 ("not", ("and", ("not", ("not", other)), ("or", LOW, TWO)))),
            ),
        ]:
            self.assertEqual(replaced(formula, atoms), expected)

    def test_replaced_by_its_own_atoms_is_the_same_formula(self):
        for formula in FORMULAS:
            self.assertEqual(replaced(formula, atoms_of(formula)), formula)

    def test_what_is_replaced_can_have_more_atoms_and_depth(self):
        wide = joined("or", [LOW] * 6 + [ONE] * 3)
        formula = replaced(("and", LOW, ("not", ONE)), [wide, negated(6, wide)])
        self.assertEqual(formula, ("and", wide, ("not", negated(6, wide))))
        self.assertEqual(size_of(formula), (12, 6, 12))


def truth_by_table(formula, truths):
    """The truth of a formula, where truths is an iterator over truths of its atoms."""
    if formula[0] in ("sign", "some"):
        return next(truths)
    parts = [truth_by_table(part, truths) for part in formula[1:]]
    if formula[0] == "not":
        return {True: False, False: True, None: None}[parts[0]]
    strong = formula[0] == "or"
    if strong in parts:
        return strong
    return None if None in parts else not strong


class TruthByTest(unittest.TestCase):
    def test_atoms(self):
        for truth in (True, False, None):
            self.assertIs(truth_by(LOW, [truth]), truth)
            self.assertIs(truth_by(TWO, [truth]), truth)

    def test_not(self):
        for truth, expected in [(True, False), (False, True), (None, None)]:
            self.assertIs(truth_by(("not", LOW), [truth]), expected)
            self.assertIs(truth_by(("not", ("not", ONE)), [truth]), truth)

    def test_and(self):
        for first, second, expected in [
            (True, True, True), (True, False, False), (False, True, False), (False, False, False),
            (None, True, None), (True, None, None), (None, False, False), (False, None, False), (None, None, None),
        ]:
            self.assertIs(truth_by(("and", LOW, ONE), [first, second]), expected)

    def test_or(self):
        for first, second, expected in [
            (True, True, True), (True, False, True), (False, True, True), (False, False, False),
            (None, True, True), (True, None, True), (None, False, None), (False, None, None), (None, None, None),
        ]:
            self.assertIs(truth_by(("or", LOW, ONE), [first, second]), expected)

    def test_truths_belong_to_the_atoms_in_order(self):
        for formula in FORMULAS:
            for truths in itertools.product((True, False, None), repeat=len(atoms_of(formula))):
                expected = truth_by_table(formula, iter(truths))
                self.assertIs(truth_by(formula, list(truths)), expected, (formula, truths))


def is_pushed(formula):
    if formula[0] == "not":
        return formula[1][0] == "some"
    return formula[0] in ("sign", "some") or (is_pushed(formula[1]) and is_pushed(formula[2]))


def true_at(formula, t, true_blocks):
    """The truth at t when exactly these blocks are true."""
    word = formula[0]
    if word == "sign":
        amount = sum(c * t ** power for power, c in enumerate(formula[1]))
        return {"<": amount < 0, "<=": amount <= 0, "=": amount == 0, "!=": amount != 0, ">=": amount >= 0,
                ">": amount > 0}[formula[2]]
    if word == "some":
        return formula in true_blocks
    truths = [true_at(part, t, true_blocks) for part in formula[1:]]
    return {"not": not truths[0], "and": all(truths), "or": any(truths)}[word]


class PushedTest(unittest.TestCase):
    def test_example_of_the_document(self):
        formula = ("not", ("and", ("sign", [0, 1], "<"), ("not", ("sign", [1], "="))))
        self.assertEqual(pushed(formula), ("or", ("sign", [0, 1], ">="), ("sign", [1], "=")))

    def test_atoms_stay(self):
        for sign in SIGNS:
            self.assertEqual(pushed(("sign", [0, 1], sign)), ("sign", [0, 1], sign))
        self.assertEqual(pushed(ONE), ONE)
        self.assertEqual(pushed(TWO), TWO)

    def test_opposite_signs(self):
        for sign, opposite in [("<", ">="), ("<=", ">"), ("=", "!="), ("!=", "="), (">=", "<"), (">", "<=")]:
            self.assertEqual(pushed(("not", ("sign", [0, 1], sign))), ("sign", [0, 1], opposite))

    def test_not_stays_in_front_of_blocks(self):
        self.assertEqual(pushed(("not", ONE)), ("not", ONE))
        self.assertEqual(pushed(("not", ("or", ONE, TWO))), ("and", ("not", ONE), ("not", TWO)))

    def test_and_and_or(self):
        no_low, no_one = ("sign", [-1, 1], ">="), ("not", ONE)
        for word, opposite in [("and", "or"), ("or", "and")]:
            self.assertEqual(pushed((word, LOW, ONE)), (word, LOW, ONE))
            self.assertEqual(pushed((word, ("not", LOW), ("not", ONE))), (word, no_low, no_one))
            self.assertEqual(pushed(("not", (word, LOW, ONE))), (opposite, no_low, no_one))
            self.assertEqual(pushed(("not", (word, ("not", LOW), ("not", ONE)))), (opposite, LOW, ONE))

    def test_several_not_one_within_another(self):
        for many in range(8):
            even = many % 2 == 0
            self.assertEqual(pushed(negated(many, LOW)), LOW if even else ("sign", [-1, 1], ">="))
            self.assertEqual(pushed(negated(many, ONE)), ONE if even else ("not", ONE))
            expected = ("and", LOW, ("not", TWO)) if even else ("or", ("sign", [-1, 1], ">="), TWO)
            self.assertEqual(pushed(negated(many, ("and", LOW, ("not", TWO)))), expected)
            self.assertEqual(pushed(negated(many, ("and", LOW, negated(3, TWO)))), expected)

    def test_pushed_and_true_at_the_same_values(self):
        for formula in FORMULAS:
            found = pushed(formula)
            self.assertTrue(is_pushed(found), found)
            self.assertIsNone(check_formula(found))
            for t in (-3, -1, 0, Fraction(1, 2), 1, Fraction(7, 5), 2):
                for blocks in ([], [ONE], [TWO], [ONE, TWO]):
                    self.assertEqual(true_at(found, t, blocks), true_at(formula, t, blocks))

    def test_a_pushed_formula_stays(self):
        for formula in FORMULAS:
            self.assertEqual(pushed(pushed(formula)), pushed(formula))


class ListsTest(unittest.TestCase):
    def test_arguments_stay_and_what_is_returned_is_new(self):
        for formula in FORMULAS:
            atoms = atoms_of(formula)
            for function in (check_formula, atoms_of, polynomials_of, size_of, pushed):
                check_new(self, function, formula)
            check_new(self, replaced, formula, atoms)
            check_new(self, replaced, formula, [TWO] * len(atoms))
            check_new(self, truth_by, formula, [None] * len(atoms))

    def test_replaced_by_formulas_with_parts(self):
        check_new(self, replaced, ("or", LOW, ONE), [DEEP, WIDE])
        check_new(self, replaced, ("or", LOW, ONE), [DEEP, DEEP])

    def test_changed_rows_and_coefficients(self):
        formula = ("not", ("and", ("some", 1, [([[0, 1]], [-1], "=")]), ("sign", [0, 1], "<")))
        before = copy.deepcopy(formula)
        first, second = atoms_of(formula)
        first[2][0][0][0].append(7)
        first[2][0][0].append([7])
        first[2][0][1].clear()
        first[2].append(first[2][0])
        second[1][0] = 7
        found = pushed(formula)
        found[1][1][2][0][0][0].append(7)
        found[1][1][2].clear()
        found[2][1].append(7)
        for polynomial in polynomials_of(formula):
            polynomial.append(7)
        self.assertEqual(formula, before)


if __name__ == "__main__":
    unittest.main()

import random
import re
import unittest

from helpers import check_new, cut
from wheretrue.errors import BadNumber, BadSign, BadSize, BadText, TooDeep, WhereError
from wheretrue.formulas import check_formula
from wheretrue.reading import read_formula, read_polynomial, words_of
from wheretrue.writing import write_formula, write_polynomial

WHOLE = "(0|-?[1-9][0-9]{0,2})"
SIGNS = ["<", "<=", "=", "!=", ">=", ">"]
ROW_SIGNS = ["<", "<=", "="]


class WordsOfTest(unittest.TestCase):
    def test_words(self):
        for line, words in [
            ("", [(1, "")]),
            (" ", [(1, ""), (2, "")]),
            ("  ", [(1, ""), (2, ""), (3, "")]),
            ("a", [(1, "a")]),
            ("sign", [(1, "sign")]),
            ("sign 0 <", [(1, "sign"), (6, "0"), (8, "<")]),
            ("and sign -3,0,1 <", [(1, "and"), (5, "sign"), (10, "-3,0,1"), (17, "<")]),
            (" a", [(1, ""), (2, "a")]),
            ("  a", [(1, ""), (2, ""), (3, "a")]),
            ("a ", [(1, "a"), (3, "")]),
            ("ab  ", [(1, "ab"), (4, ""), (5, "")]),
            ("a  b", [(1, "a"), (3, ""), (4, "b")]),
            ("ab   cd e", [(1, "ab"), (4, ""), (5, ""), (6, "cd"), (9, "e")]),
            (" a  b ", [(1, ""), (2, "a"), (4, ""), (5, "b"), (7, "")]),
            ("~ ! /\\", [(1, "~"), (3, "!"), (5, "/\\")]),
        ]:
            self.assertEqual(words_of(line), words, line)
            check_new(self, words_of, line)

    def test_words_make_the_line(self):
        source = random.Random(12)
        for _ in range(300):
            line = "".join(source.choices("ab, <=1", k=source.randint(0, 12)))
            words = words_of(line)
            self.assertEqual(" ".join([word for _, word in words]), line)
            for column, word in words:
                self.assertNotIn(" ", word)
                self.assertEqual(line[column - 1:column - 1 + len(word)], word)
            for (column, word), (following, _) in zip(words, words[1:]):
                self.assertEqual(column + len(word) + 1, following)
            self.assertEqual(words[0][0], 1)


class ReadPolynomialTest(unittest.TestCase):
    def check_there_and_back(self, polynomial):
        word = write_polynomial(polynomial)
        self.assertEqual(read_polynomial(word), polynomial)

    def test_each_coefficient(self):
        for number in range(-999, 1000):
            polynomial = [number] if number else []
            self.check_there_and_back(polynomial)
            self.check_there_and_back([number, 5, -number, -1])
        self.assertEqual(read_polynomial("-999"), [-999])
        self.assertEqual(read_polynomial("0"), [])

    def test_polynomials(self):
        self.assertEqual(read_polynomial("-3,0,1"), [-3, 0, 1])
        self.assertEqual(read_polynomial("0,0,0,0,0,0,0,0,0,0,0,-100"), [0] * 11 + [-100])
        source = random.Random(13)
        for _ in range(500):
            size = source.randint(0, 12)
            choices = [0, source.randint(-999, 999), source.randint(-9, 9), source.randint(-99, 99)]
            self.check_there_and_back(cut(source.choices(choices, k=size)))
        for size in range(1, 13):
            self.check_there_and_back([-999] * size)
        check_new(self, read_polynomial, "-3,0,1")
        check_new(self, read_polynomial, "0")

    def test_words_that_are_no_written_forms(self):
        for word in [
            "", "1,0", "00", "-0", "+1", "1,,2", "0,0", ",", ",1", "1,", "-", "--1", "1-", "-,1", "1,-", "1,-0,1",
            "01", "-01", "001", "1,01", "1000", "-1000", "1,1000", "1000,1", "0000", "1,2,0", "0,0,0", "-1,0", "1,00",
            "1;2", "1.0", "1.5", "1e2", "0x1", "a", "t", "1a", "a1", " ", " 1", "1 ", "1, 2", "1_0", "1_000", "_1",
            "1\n", "\n1", "1\t", "(1)", "[1]", "1,+1", "+0", "1/2", "~", "sign", "1,a,2", "1,1-1", "-1-1", "1--1",
            "\u0663", "1,\u0663", "\u00b2", "\u22121",
            ",".join(["1"] * 13), ",".join(["0"] * 12 + ["1"]), ",".join(["1"] * 400), ",".join(["1"] * 12 + ["0"]),
        ]:
            self.assertIsNone(read_polynomial(word), word)

    def test_all_short_words(self):
        right = re.compile(WHOLE + "(," + WHOLE + "){0,11}")
        words = [""]
        for _ in range(5):
            words = [word + sign for word in words for sign in ["", "0", "1", "-", ","]]
        for word in sorted(set(words)):
            is_right = right.fullmatch(word) and (word == "0" or word.split(",")[-1] != "0")
            found = read_polynomial(word)
            self.assertEqual(found is not None, bool(is_right), word)
            if is_right:
                self.assertEqual(found, cut([int(part) for part in word.split(",")]), word)
                self.assertEqual(write_polynomial(found), word)


def some_polynomial(source, most, bound):
    return cut([source.randint(-bound, bound) * source.randint(0, 1) for _ in range(source.randint(0, most + 1))])


def some_atom(source):
    if source.randint(0, 1):
        return ("sign", some_polynomial(source, 4, 99), source.choice(SIGNS))
    many = source.randint(1, 2)
    rows = []
    for _ in range(source.randint(1, 5)):
        coefficients = [some_polynomial(source, 2, 19) for _ in range(many)]
        rows.append((coefficients, some_polynomial(source, 2, 19), source.choice(ROW_SIGNS)))
    return ("some", many, rows)


def some_formula(source, depth):
    word = source.choice(["not", "and", "or", "atom"]) if depth else "atom"
    if word == "atom":
        return some_atom(source)
    if word == "not":
        return ("not", some_formula(source, depth - 1))
    return (word, some_formula(source, depth - 1), some_formula(source, depth - 1))


def is_right(formula):
    try:
        check_formula(formula)
    except WhereError:
        return False
    return True


def right_formulas(many, seed):
    source = random.Random(seed)
    found = []
    while len(found) < many:
        formula = some_formula(source, source.randint(0, 6))
        if is_right(formula):
            found.append(formula)
    return found


class Wrong(Exception):
    pass


class Parser:
    """Another way to look at the form of a line: from a formula down to its words."""

    def __init__(self, line):
        self.line = line
        self.column = 1
        self.words = line.split(" ")

    def word(self, allowed):
        if not self.words:
            raise Wrong(len(self.line) + 1)
        word = self.words.pop(0)
        if not re.fullmatch(allowed, word):
            raise Wrong(self.column)
        self.column += len(word) + 1
        return word

    def polynomial(self):
        self.word("0|(" + WHOLE + ",){0,11}-?[1-9][0-9]{0,2}")

    def formula(self):
        word = self.word("sign|some|not|and|or")
        if word == "sign":
            self.polynomial()
            self.word("<|<=|=|!=|>=|>")
        elif word == "some":
            many = int(self.word("1|2"))
            for _ in range(int(self.word("[1-5]"))):
                for _ in range(many + 1):
                    self.polynomial()
                self.word("<|<=|=")
        else:
            for _ in range(1 if word == "not" else 2):
                self.formula()


def place_of_error(text):
    """The line and the column that point 15 asks for, or None if the form is right."""
    lines = text.split("\n")
    parser = Parser(lines[0])
    try:
        parser.formula()
        if parser.words:
            raise Wrong(parser.column)
    except Wrong as wrong:
        return (1, wrong.args[0])
    if len(lines) == 1:
        return (1, len(text) + 1)
    return None if lines[1:] == [""] else (2, 1)


class ReadFormulaTest(unittest.TestCase):
    def check_read(self, text, formula):
        self.assertEqual(read_formula(text), formula)
        self.assertEqual(write_formula(formula), text)
        check_new(self, read_formula, text)

    def check_place(self, text, line, column):
        with self.assertRaises(BadText) as caught:
            read_formula(text)
        self.assertIs(caught.exception.__class__, BadText)
        self.assertEqual((caught.exception.line, caught.exception.column), (line, column), text)
        self.assertEqual(place_of_error(text), (line, column), text)

    def check_raises(self, error, text):
        with self.assertRaises(error) as caught:
            read_formula(text)
        self.assertIs(caught.exception.__class__, error, text)
        self.assertIsNone(place_of_error(text), text)

    def test_the_examples_of_the_document(self):
        self.check_read(
            "and sign -3,0,1 < not some 1 1 0,1 -1 =\n",
            ("and", ("sign", [-3, 0, 1], "<"), ("not", ("some", 1, [([[0, 1]], [-1], "=")]))),
        )
        self.check_place("and sign 1 <\n", 1, 13)

    def test_each_form(self):
        for sign in SIGNS:
            self.check_read("sign 0,0,0,0,-99 " + sign + "\n", ("sign", [0, 0, 0, 0, -99], sign))
        for sign in ROW_SIGNS:
            self.check_read("some 1 1 0 5 " + sign + "\n", ("some", 1, [([[]], [5], sign)]))
        for many in (1, 2):
            for rows in range(1, 6):
                words = []
                expected = []
                for k in range(rows):
                    expected.append(([[k + 1, j + 1] for j in range(many)], [0, 0, -k - 1], ROW_SIGNS[k % 3]))
                    words.extend([f"{k + 1},{j + 1}" for j in range(many)] + [f"0,0,{-k - 1}", ROW_SIGNS[k % 3]])
                self.check_read(f"some {many} {rows} {' '.join(words)}\n", ("some", many, expected))
        low = ("sign", [-1, 1], "<")
        far = ("sign", [7], ">")
        self.check_read("not sign -1,1 <\n", ("not", low))
        self.check_read("and sign -1,1 < sign 7 >\n", ("and", low, far))
        self.check_read("or sign -1,1 < sign 7 >\n", ("or", low, far))
        self.check_read("or and sign 7 > sign -1,1 < not sign 7 >\n", ("or", ("and", far, low), ("not", far)))
        self.check_read("and sign 7 > or not sign 7 > sign -1,1 <\n", ("and", far, ("or", ("not", far), low)))

    def test_there_and_back(self):
        for formula in right_formulas(400, 14):
            text = write_formula(formula)
            self.assertEqual(text.count("\n"), 1)
            self.assertTrue(text.endswith("\n"))
            self.check_read(text, formula)

    def test_as_deep_as_the_check_allows(self):
        self.check_read("not " * 6 + "sign 1 <\n", nested("not", 6))
        chain = ("sign", [1], "<")
        text = "sign 1 <\n"
        for word in ("and", "or", "and", "or", "and"):
            chain = (word, ("sign", [1], "<"), chain)
            text = word + " sign 1 < " + text
        self.check_read("not " + text, ("not", chain))

    def test_a_wrong_word_in_each_place(self):
        self.check_place("Sign 1 <\n", 1, 1)
        self.check_place("use 1 <\n", 1, 1)
        self.check_place("1 <\n", 1, 1)
        self.check_place("sign x <\n", 1, 6)
        self.check_place("sign 1,0 <\n", 1, 6)
        self.check_place("sign < 1\n", 1, 6)
        self.check_place("sign 1 ==\n", 1, 8)
        self.check_place("sign 1,2 =<\n", 1, 10)
        self.check_place("some 0 1 1 1 <\n", 1, 6)
        self.check_place("some 3 1 1 1 <\n", 1, 6)
        self.check_place("some 01 1 1 1 <\n", 1, 6)
        self.check_place("some -1 1 1 1 <\n", 1, 6)
        self.check_place("some 1 0\n", 1, 8)
        self.check_place("some 2 6 1 1 1 <\n", 1, 8)
        self.check_place("some 2 12 1 1 1 <\n", 1, 8)
        self.check_place("some 1 1 00 1 <\n", 1, 10)
        self.check_place("some 1 1 1 -0 <\n", 1, 12)
        self.check_place("some 2 1 1 1 1,0 <\n", 1, 14)
        for sign in ("!=", ">=", ">", "==", "1"):
            self.check_place("some 1 1 1 1 " + sign + "\n", 1, 14)
            self.check_place("some 2 2 1 1 1 = 0 0 12 " + sign + "\n", 1, 25)
        self.check_place("not no sign 1 <\n", 1, 5)
        self.check_place("and 1 sign 1 <\n", 1, 5)
        self.check_place("and sign 1 < <\n", 1, 14)
        self.check_place("or sign 1 < xor sign 1 < sign 1 <\n", 1, 13)
        self.check_place("or some 1 1 1 1 < sign 1000 <\n", 1, 24)

    def test_lines_that_end_too_early(self):
        for text in [
            "sign", "sign 1", "some", "some 1", "some 2", "some 1 2", "some 1 1 1", "some 1 1 1 1", "some 1 2 1 1 =",
            "some 2 1 1 1", "some 2 1 1 1 1", "not", "and", "or", "and sign 1 <", "or not sign 1 <", "not not",
            "and and", "or some 1 1 1 1 <", "and sign 1 < not",
        ]:
            self.check_place(text + "\n", 1, len(text) + 1)
            self.check_place(text, 1, len(text) + 1)
            self.check_place(text + "\n\n", 1, len(text) + 1)
            self.check_place(text + "\nsign 1 <\n", 1, len(text) + 1)

    def test_words_too_many(self):
        self.check_place("sign 1 < <\n", 1, 10)
        self.check_place("sign 1 < sign 1 <\n", 1, 10)
        self.check_place("not sign 1 < sign 1 <\n", 1, 14)
        self.check_place("some 1 1 1 1 = 1 1 =\n", 1, 16)
        self.check_place("and sign 1 < sign 2 < sign 3 <\n", 1, 23)

    def test_words_that_are_wrong_by_the_number_ahead(self):
        # With another number the same words would be right.
        self.check_place("some 2 1 1 1 <\n", 1, 14)
        self.check_place("some 1 1 1 1 1 <\n", 1, 14)
        self.check_place("some 1 1 1 1 < 1 1 <\n", 1, 16)
        self.check_place("some 1 3 1 1 < 1 1 <\n", 1, 21)
        self.check_place("and some 1 2 1 1 < sign 1 <\n", 1, 20)
        self.check_place("some 2 2 1 1 1 < 1 1 <\n", 1, 22)

    def test_empty_words(self):
        self.check_place(" sign 1 <\n", 1, 1)
        self.check_place("sign  1 <\n", 1, 6)
        self.check_place("sign 1  <\n", 1, 8)
        self.check_place("sign 1 < \n", 1, 10)
        self.check_place("sign 1 <  \n", 1, 10)
        self.check_place("sign 1 \n", 1, 8)
        self.check_place(" \n", 1, 1)
        self.check_place("not  sign 1 <\n", 1, 5)

    def test_lines(self):
        self.check_place("", 1, 1)
        self.check_place("\n", 1, 1)
        self.check_place("\n\n", 1, 1)
        self.check_place("\nsign 1 <\n", 1, 1)
        self.check_place("sign 1 <\n\n", 2, 1)
        self.check_place("sign 1 <\n\n\n", 2, 1)
        self.check_place("sign 1 <\nsign 1 <\n", 2, 1)
        self.check_place("sign 1 <\nsign 1 <", 2, 1)
        self.check_place("sign 1 <\nx", 2, 1)
        self.check_place("sign 1 <\n ", 2, 1)
        self.check_place("sign 1 <\n \n", 2, 1)
        self.check_place("sign 1 x\n\n", 1, 8)
        self.check_place("sign 1\n<\n", 1, 7)

    def test_no_newline_at_the_end(self):
        self.check_place("sign 1 <", 1, 9)
        self.check_place("some 1 1 1 1 =", 1, 15)
        self.check_place("sign x <", 1, 6)
        self.check_place("sign 1 < <", 1, 10)
        self.check_place("sign 1 < ", 1, 10)
        self.check_place("sign 1 ", 1, 8)
        self.check_place(" ", 1, 1)
        self.check_place("x", 1, 1)
        # Its data would be wrong, too.
        self.check_place("sign 100 <", 1, 11)

    def test_the_first_of_two_wrong_words_counts(self):
        self.check_place("sign 00 ==\n", 1, 6)
        self.check_place("some 3 6 1 1 >\n", 1, 6)
        self.check_place("some 1 6 00 1 >\n", 1, 8)
        self.check_place("and sign 1 => sign 1 => sign 1 <\n", 1, 12)
        self.check_place("sign 1 < x  y\n", 1, 10)
        self.check_place("sign  00 <\n", 1, 6)

    def test_the_form_is_looked_at_before_the_data(self):
        self.check_place("and sign 100 < sign 1 ==\n", 1, 23)
        self.check_place("not " * 7 + "sign 1 < 1\n", 1, 38)
        self.check_place("sign 1,1,1,1,1,1 < x\n", 1, 20)
        self.check_place("some 1 1 20 1 >\n", 1, 15)
        self.check_place("sign 100 <\n\n", 2, 1)
        self.check_place("and " * 7 + "sign 1 < " * 7 + "sign\n", 1, 7 * 13 + 5)

    def test_errors_of_the_data(self):
        self.check_raises(TooDeep, "not " * 7 + "sign 1 <\n")
        self.check_raises(TooDeep, "not " * 7 + "sign 100 <\n")
        self.check_raises(TooDeep, "and sign 1 < " * 7 + "some 1 1 1 1 <\n")
        self.check_raises(BadSize, "sign 1,1,1,1,1,1 <\n")
        self.check_raises(BadSize, "sign 100,1,1,1,1,1,1,1,1,1,1,1 <\n")
        self.check_raises(BadNumber, "sign 100 <\n")
        self.check_raises(BadNumber, "sign 1,-100 <\n")
        self.check_raises(BadSize, "some 1 1 1,1,1,1 1 <\n")
        self.check_raises(BadSize, "some 2 1 1 1 1,1,1,1 <\n")
        self.check_raises(BadNumber, "some 1 1 20 1 <\n")
        self.check_raises(BadNumber, "some 2 2 1 1 1 < 1 1 0,-20 <\n")
        self.check_raises(BadSize, "and " * 6 + "sign 1 < " * 6 + "sign 1 <\n")
        self.check_raises(BadSize, "and and some 1 1 1 1 < some 1 1 1 1 < and some 1 1 1 1 < some 1 1 1 1 <\n")
        self.check_raises(BadNumber, "and sign 100 < sign 1,1,1,1,1,1 <\n")
        self.check_raises(BadSize, "and sign 1,1,1,1,1,1 < sign 100 <\n")

    def test_long_texts(self):
        self.check_raises_quickly(TooDeep, "not " * 20000 + "sign 1 <\n")
        self.check_raises_quickly(TooDeep, "and " * 20000 + "sign 1 < " * 20000 + "sign 1 <\n")
        self.check_raises_quickly(TooDeep, "or sign 1 < " * 20000 + "sign 1 <\n")
        with self.assertRaises(BadText) as caught:
            read_formula("not " * 20000 + "sign 1\n")
        self.assertEqual((caught.exception.line, caught.exception.column), (1, 80007))

    def check_raises_quickly(self, error, text):
        with self.assertRaises(error):
            read_formula(text)

    def test_texts_with_one_change(self):
        source = random.Random(15)
        pieces = [
            "0", "1", "2", "5", "6", ",", "-", " ", "  ", "\n", "<", "=", ">", "<=", "!", "sign ", "not ", "and ",
            "or ", "some ", "1 ", "1 1 ", "x", ">= ", "= ", "",
        ]
        seen = 0
        for formula in right_formulas(150, 16):
            text = write_formula(formula)
            for _ in range(12):
                low = source.randint(0, len(text))
                high = source.choice([low, low + 1, low + 2, low + source.randint(0, 6)])
                changed = text[:low] + source.choice(pieces) + text[high:]
                place = place_of_error(changed)
                if place is None:
                    self.check_right_form(changed)
                else:
                    seen += 1
                    self.check_place(changed, *place)
        self.assertGreater(seen, 1000)

    def check_right_form(self, text):
        try:
            formula = read_formula(text)
        except BadText:
            self.fail(text)
        except (BadNumber, BadSize, TooDeep, BadSign):
            return
        self.assertEqual(write_formula(formula), text)


def nested(word, many):
    formula = ("sign", [1], "<")
    for _ in range(many):
        formula = (word, formula)
    return formula


if __name__ == "__main__":
    unittest.main()

"""Families of equations: which kind of solutions they have at each t, and solutions as fractions."""

from itertools import combinations

from wheretrue.cells import division_of, is_fine
from wheretrue.errors import BadSize, NotFine
from wheretrue.lines import Line
from wheretrue.numbers import is_whole
from wheretrue.polynomials import add, check_polynomial, multiply, scale
from wheretrue.realroots import sign_of_value

MOST_NUMBERS = 3
MOST_ROWS = 3


def check_family(family):
    """Raises the first error that is due, or returns None if the family is right."""
    many, rows = family
    if not is_whole(many) or not 1 <= many <= MOST_NUMBERS or len(rows) > MOST_ROWS:
        raise BadSize()
    for coefficients, constant in rows:
        if len(coefficients) != many:
            raise BadSize()
        for polynomial in [*coefficients, constant]:
            check_polynomial(polynomial, most=2, bound=20)


def _table(family):
    """A line for each row: its coefficients and then its constant."""
    return [[*coefficients, constant] for coefficients, constant in family[1]]


def minors(table, *, size):
    """The determinants of the squares of so many lines and columns, by their lines and then by their columns."""
    found = []
    for lines in combinations(table, size):
        found.extend(_minors_of_lines(lines))
    return found


def _minors_of_lines(lines):
    """The determinants of all squares that these lines have together with as many columns."""
    # The determinants of the first lines and as many columns, by the places of these.
    known = {(): [1]}
    for size in range(1, len(lines) + 1):
        line = lines[size - 1]
        known = {columns: _expanded(line, columns, known) for columns in combinations(range(len(line)), size)}
    return list(known.values())


def _expanded(line, columns, known):
    """The determinant of these columns with this line as the last one, by those without it."""
    found = []
    for k, column in enumerate(columns):
        sign = -1 if (len(columns) - 1 - k) % 2 == 1 else 1
        others = columns[:k] + columns[k + 1:]
        found = add(found, scale(multiply(line[column], known[others]), sign))
    return found


def kind_at(family, x):
    """The kind of the family at the number x: "none", "one" or "many", as there are solutions."""
    return _kinds(family, lambda a: [sign_of_value(a, x)], 1)[0]


def kinds_of(family):
    """The division of the family, and the list of its kinds on the cells."""
    division = division_of(_all_minors(_table(family)))
    line = Line(division)
    return division, _kinds(family, lambda a: line.fine_signs(a), line.cell_count())


def _all_minors(table):
    """The minors of size 1, then those of size 2, and so on."""
    found = []
    for size in range(1, len(table) + 1):
        found.extend(minors(table, size=size))
    return found


def _kinds(family, signs_of, count):
    """The kinds at so many places, at which the signs of a polynomial are told by signs_of."""
    many = family[0]
    table = _table(family)
    ranks = _ranks(table, signs_of, count)
    lesser_ranks = _ranks([line[:-1] for line in table], signs_of, count)
    return [_kind(many, rank, lesser) for rank, lesser in zip(ranks, lesser_ranks)]


def _kind(many, rank, lesser):
    """The kind by the rank of the table and the one without its last column."""
    if rank > lesser:
        return "none"
    return "one" if rank == many else "many"


def _ranks(table, signs_of, count):
    """The ranks of the table at so many places."""
    ranks = [0] * count
    for size in range(1, len(table) + 1):
        for determinant in minors(table, size=size):
            for place, sign in enumerate(signs_of(determinant)):
                if sign != 0:
                    ranks[place] = size
    return ranks


def solve(family, division, cell):
    """Fractions that solve the family on the cell, or None if it has no solution there.

    Raises NotFine if the division is not finer than that of the family.
    """
    table = _table(family)
    # A division that is fine for all minors is finer than that of the family, and the other way round.
    if not all([is_fine(division, determinant) for determinant in _all_minors(table)]):
        raise NotFine()
    line = Line(division)
    lines, columns, denominator = _greatest_square(table, line, cell)
    if any([line.sign_in(cell, a) != 0 for a in minors(table, size=len(lines) + 1)]):
        return None
    numerators = [[] for _ in range(family[0])]
    # Cramer's rule for these lines and columns; the numbers of the other columns are 0.
    for column in columns:
        square = [[scale(row[-1], -1) if k == column else row[k] for k in columns] for row in lines]
        numerators[column] = minors(square, size=len(lines))[0]
    return numerators, denominator


def _greatest_square(table, line, cell):
    """A greatest square of coefficients whose determinant is not 0 on the cell: (lines, columns, determinant)."""
    coefficients = [row[:-1] for row in table]
    for size in range(len(table), 0, -1):
        determinants = minors(coefficients, size=size)
        squares = [(lines, columns) for lines in combinations(table, size)
                   for columns in combinations(range(len(table[0]) - 1), size)]
        for (lines, columns), determinant in zip(squares, determinants):
            if line.sign_in(cell, determinant) != 0:
                return lines, columns, determinant
    return (), (), [1]


def solves(family, division, cell, fractions):
    """True if the fractions, numerators and a denominator, solve the family on the cell of the division."""
    many, rows = family
    numerators, denominator = fractions
    line = Line(division)
    if len(numerators) != many or line.sign_in(cell, denominator) not in (-1, 1):
        return False
    return all([line.sign_in(cell, _row_value(row, numerators, denominator)) == 0 for row in rows])


def _row_value(row, numerators, denominator):
    """The sum of the row for these numerators and this denominator, times the denominator."""
    coefficients, constant = row
    found = multiply(constant, denominator)
    for coefficient, numerator in zip(coefficients, numerators):
        found = add(found, multiply(coefficient, numerator))
    return found

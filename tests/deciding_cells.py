"""Signs on cells between numbers, and what papers for blocks say there, told word by word.

A cell is told by its ends here, Fractions or None: a stretch between them, or a point if both are the same.
"""

from fractions import Fraction

from helpers import as_number, product_by_powers, sum_by_powers
from searching import COMPARED, polynomial_value
from wheretrue.polynomials import square_free
from wheretrue.roots import compare_root, count_roots


def cells_of(numbers):
    """The cells between these numbers."""
    ends = sorted(numbers)
    found = []
    for low, high in zip([None, *ends], [*ends, None]):
        found.extend([(low, high), (high, high)])
    return found[:-1]


def polynomial_sign(polynomial, cell):
    """The sign that the polynomial has everywhere in the cell, or None."""
    low, high = cell
    if low is not None and low == high:
        return sign(polynomial_value(polynomial, low))
    if not polynomial:
        return 0
    p = square_free(polynomial)
    for k in range(count_roots(p) if len(p) > 1 else 0):
        is_right = low is None or compare_root(p, k, as_number(low)) > 0
        is_left = high is None or compare_root(p, k, as_number(high)) < 0
        if is_right and is_left:
            return None
    return sign(polynomial_value(polynomial, inner(low, high)))


def inner(low, high):
    if low is None:
        return Fraction(0) if high is None else high - 1
    return low + 1 if high is None else (low + high) / 2


def sign(x):
    return (x > 0) - (x < 0)


def ratio_sign(p, q, cell):
    """The sign of p divided by q in the cell, which have no common roots there, or None."""
    top, below = polynomial_sign(p, cell), polynomial_sign(q, cell)
    return None if top is None or below in (None, 0) else top * below


def are_witnesses_by_words(block, fractions, cell):
    _, many, rows = block
    if len(fractions) != many or any(ratio_sign([1], q, cell) is None for _, q in fractions):
        return False
    for coefficients, constant, row_sign in rows:
        top, below = constant, [1]
        for a, (p, q) in zip(coefficients, fractions):
            top = sum_by_powers(product_by_powers(top, q), product_by_powers(product_by_powers(a, p), below))
            below = product_by_powers(below, q)
        found = ratio_sign(top, below, cell)
        if found is None or not COMPARED[row_sign](found):
            return False
    return True


def are_against_by_words(block, polynomials, cell):
    _, many, rows = block
    if len(polynomials) != len(rows):
        return False
    signs = [polynomial_sign(a, cell) for a in polynomials]
    if any(one is None or one < 0 and row[2] != "=" for one, row in zip(signs, rows)):
        return False
    sums = []
    for k in range(many + 1):
        total = []
        for a, row in zip(polynomials, rows):
            total = sum_by_powers(total, product_by_powers(a, [*row[0], row[1]][k]))
        sums.append(polynomial_sign(total, cell))
    if any(one != 0 for one in sums[:many]):
        return False
    strict = any(one == 1 and row[2] == "<" for one, row in zip(signs, rows))
    return sums[many] == 1 or sums[many] == 0 and strict


def entry_by_words(block, entry, cell):
    word, polynomials = entry
    return (are_witnesses_by_words if word == "yes" else are_against_by_words)(block, polynomials, cell)

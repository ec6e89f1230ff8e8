"""Witnesses for single blocks on the cells of divisions, multipliers against them, and papers."""

from wheretrue.asking import fits
from wheretrue.cells import cells_in
from wheretrue.deciding import block_proofs
from wheretrue.fractions import fraction, sign_in
from wheretrue.lines import Line
from wheretrue.polynomials import add, multiply
from wheretrue.vectors import with_factors


def row_sum(row, fractions):
    """The sum of the row with these fractions, as many as it has coefficients."""
    top, below = _row_parts(row, fractions)
    return fraction(top, below)


def _row_parts(row, fractions):
    """The sum of the row as two polynomials, not in lowest terms."""
    coefficients, constant, _ = row
    top = constant
    below = [1]
    for coefficient, (p, q) in zip(coefficients, fractions):
        top = add(multiply(top, q), multiply(multiply(coefficient, p), below))
        below = multiply(below, q)
    return top, below


def are_witnesses(block, division, fractions, *, cell):
    """True if the list of fractions is one of witnesses for the block on the cell."""
    return entry_holds(block, Line(division), cell, ("yes", fractions))


def are_against(block, division, polynomials, *, cell):
    """True if the list of polynomials is one of multipliers against the block on the cell."""
    return entry_holds(block, Line(division), cell, ("no", polynomials))


def entry_holds(block, line, cell, entry):
    """True if the entry of a paper for the block is right on the cell of the line."""
    word, polynomials = entry
    if word == "yes":
        return _are_witnesses(block, line, cell, polynomials)
    return word == "no" and _are_against(block, line, cell, polynomials)


def _are_witnesses(block, line, cell, fractions):
    _, many, rows = block
    if len(fractions) != many or not all([line.sign_in(cell, q) in (-1, 1) for _, q in fractions]):
        return False
    return all([_is_fulfilled(row, fractions, line, cell) for row in rows])


def _is_fulfilled(row, fractions, line, cell):
    sign = sign_in(_row_parts(row, fractions), line, cell)
    return sign is not None and fits(row[2], sign)


def _are_against(block, line, cell, multipliers):
    rows = block[2]
    if len(multipliers) != len(rows):
        return False
    signs = [line.sign_in(cell, a) for a in multipliers]
    if not all([_is_allowed(sign, row[2]) for sign, row in zip(signs, rows)]):
        return False
    *sums, constant = with_factors(multipliers, [[*row[0], row[1]] for row in rows])
    if not all([line.sign_in(cell, a) == 0 for a in sums]):
        return False
    rest = line.sign_in(cell, constant)
    return rest == 1 or rest == 0 and any([sign == 1 and row[2] == "<" for sign, row in zip(signs, rows)])


def _is_allowed(sign, row_sign):
    """True if a multiplier with this sign, or None, may stand for a row with this sign."""
    return sign is not None and (sign != -1 or row_sign == "=")


def block_paper(block):
    """A right paper for the block."""
    division, proofs = block_proofs(block)
    return division, [_entry(proof, block[1]) for proof in proofs]


def _entry(proof, many):
    polynomials = proof.polynomials()
    if not proof.is_true:
        return ("no", polynomials)
    return ("yes", [fraction(polynomials[k], polynomials[-1]) for k in range(many)])


def is_block_paper(block, paper):
    """True if the paper is right for the block."""
    division, entries = paper
    line = Line(division)
    if len(entries) != line.cell_count():
        return False
    return all([entry_holds(block, line, cell, entry) for cell, entry in enumerate(entries)])


def put_on(paper, division):
    """The paper with the same entries for the finer division; raises NotFine if it is not finer."""
    cells = cells_in(division, paper[0])
    parts, count = division
    return ([list(part) for part in parts], count), [copied_entry(paper[1][cell]) for cell in cells]


def copied_entry(entry):
    """The same entry of a paper with new lists."""
    word, polynomials = entry
    if word == "no":
        return (word, [list(a) for a in polynomials])
    return (word, [(list(p), list(q)) for p, q in polynomials])


def paper_truths(paper):
    """A list with True or False for each cell of the paper, by its entries."""
    return [word == "yes" for word, _ in paper[1]]

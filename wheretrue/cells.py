"""Divisions: the real line divided into points and stretches by the roots of polynomials."""

from wheretrue.errors import NotFine
from wheretrue.isolating import isolated
from wheretrue.lines import Line, divisors_with
from wheretrue.polynomials import common_divisor, quotient, square_free


def is_division(value):
    """True if the tuple of a list of lists of whole numbers and a whole number is a division."""
    parts, count = value
    if not all([_is_part(part) for part in parts]) or _in_order(parts) != parts:
        return False
    for k, part in enumerate(parts):
        if not all([common_divisor(part, other) == [1] for other in parts[:k]]):
            return False
    return count == _count(parts)


def _is_part(part):
    return len(part) > 1 and part[-1] > 0 and square_free(part) == part


def _in_order(parts):
    return sorted(parts, key=lambda part: (len(part), part))


def _count(parts):
    """The number of the real roots of the parts."""
    return sum([len(isolated(part)) for part in parts])


def division_of(polynomials):
    """The division of the list of polynomials."""
    return put_in(([], 0), polynomials)


def put_in(division, polynomials):
    """The division with these polynomials put in."""
    parts = [list(part) for part in division[0]]
    for polynomial in polynomials:
        if polynomial != []:
            parts = _divided(parts, square_free(polynomial))
    return (_in_order(parts), _count(parts))


def _divided(parts, polynomial):
    """The parts, each divided into what it has in common with the square-free polynomial and the rest, and one more."""
    found = []
    rest = polynomial
    for part in parts:
        divisor = common_divisor(part, rest)
        rest = quotient(rest, divisor)
        found.extend([divisor, quotient(part, divisor)])
    found.append(rest)
    return [part for part in found if part != [1]]


def cell_of(division, x):
    """The cell in which the number x lies."""
    return Line(division).cell_of(x)


def root_of(division, cell):
    """The place of the part that has the root, a cell with an odd number, and the number of the root in this part."""
    return Line(division).places[cell // 2]


def sample_of(division, cell):
    """The sample of the stretch, a cell with an even number."""
    return Line(division).sample(cell)


def is_fine(division, a):
    """True if the division is fine for the polynomial a: its real roots are among those of the division."""
    try:
        divisors_with(a, division[0])
    except NotFine:
        return False
    return True


def sign_on(division, cell, a):
    """The sign of the polynomial a on the cell; raises NotFine if the division is not fine for a."""
    return Line(division).sign_on(cell, a)


def signs_on(division, a):
    """The list of the signs of a on all cells, in order; raises NotFine if the division is not fine for a."""
    return Line(division).signs_on(a)


def cells_in(finer, division):
    """For each cell of the finer division the cell of the other one in which it lies.

    Raises NotFine if it is not finer.
    """
    line = Line(finer)
    zeros = [line.zeros(part) for part in division[0]]
    cells = [0]
    for k in range(len(line.roots)):
        step = 1 if any([row[k] for row in zeros]) else 0
        cells.extend([cells[-1] + step, cells[-1] + 2 * step])
    return cells

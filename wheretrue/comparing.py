"""Comparing formulas: whether they are true at the same values of t, and where they are not."""

from wheretrue.cells import put_in
from wheretrue.lines import Line
from wheretrue.polynomials import plain, square_free
from wheretrue.realroots import real_roots
from wheretrue.where import spread, truth_at, truth_by_place, where


def follows(first, second):
    """True if the second formula follows from the first one."""
    _, pairs = _compared(first, second)
    return not any([one and not other for one, other in pairs])


def same(first, second):
    """True if the two formulas are true at the same values of t."""
    _, pairs = _compared(first, second)
    return all([one == other for one, other in pairs])


def _compared(first, second):
    """A division, and a list with a tuple for each of its cells: the truths of the two formulas there."""
    one = where(first)
    other = where(second)
    division = put_in(one[0], other[0][0])
    return division, list(zip(spread(one, division), spread(other, division)))


def parted(first, second):
    """A value of t for which one of the formulas is true and the other one is not, or None if they are the same."""
    division, pairs = _compared(first, second)
    line = Line(division)
    cells = [cell for cell, (one, other) in enumerate(pairs) if one != other]
    for cell in cells:
        x = line.sample(cell) if cell % 2 == 0 else line.roots[cell // 2].rational()
        if x is not None:
            return ("number", x)
    if cells == []:
        return None
    part, k = line.places[cells[0] // 2]
    return ("root", list(division[0][part]), k)


def is_parting(first, second, *, told):
    """True if what is told, ("number", t) or ("root", polynomial, k), is a parting value of the formulas."""
    if told[0] == "number":
        return truth_at(first, told[1]) != truth_at(second, told[1])
    _, polynomial, k = told
    if plain(polynomial) != polynomial or square_free(polynomial) != polynomial:
        return False
    roots = real_roots(polynomial)
    if not 0 <= k < len(roots):
        return False
    return truth_by_place(first, roots[k]) != truth_by_place(second, roots[k])

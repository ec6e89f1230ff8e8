"""Where formulas are true: at single values of t, and on the whole line."""

from wheretrue.asking import block_by, fits
from wheretrue.cells import cells_in, division_of, put_in
from wheretrue.deciding import block_truths
from wheretrue.formulas import atoms_of, truth_by
from wheretrue.lines import Line
from wheretrue.realroots import Point


def truth_at(formula, t):
    """True if the formula is true at the number t."""
    return truth_by_place(formula, Point(t))


def truth_by_place(formula, place):
    """True if the formula is true at the place, a Point or a Root."""
    return truth_by(formula, [_atom_by(atom, place) for atom in atoms_of(formula)])


def _atom_by(atom, place):
    word, first, second = atom
    if word == "sign":
        return fits(second, place.sign_of(first))
    return block_by(first, second, place)


def where(formula):
    """A right answer for the formula: a division, and a list with True or False for each of its cells."""
    atoms = atoms_of(formula)
    # For each block its own answer, which tells its truth on all cells of a finer division.
    answers = [block_truths(atom) if atom[0] == "some" else None for atom in atoms]
    polynomials = []
    for atom, answer in zip(atoms, answers):
        polynomials.extend([atom[1]] if answer is None else answer[0][0])
    division = division_of(polynomials)
    line = Line(division)
    rows = [_truths_on(atom, answer, division, line) for atom, answer in zip(atoms, answers)]
    truths = [truth_by(formula, [row[cell] for row in rows]) for cell in range(line.cell_count())]
    thinned, cells = line.thinned(truths)
    return thinned, [truths[cell] for cell in cells]


def _truths_on(atom, answer, division, line):
    """The truths of the atom on all cells of the division, whose line this is."""
    if answer is None:
        return [fits(atom[2], sign) for sign in line.fine_signs(atom[1])]
    return spread(answer, division)


def spread(answer, finer):
    """The truths of the answer on the cells of a finer division."""
    division, truths = answer
    return [truths[cell] for cell in cells_in(finer, division)]


def is_where(formula, answer):
    """True if the answer, a tuple of a division and a list of truth values, is right for the formula."""
    division, truths = answer
    if len(truths) != 2 * division[1] + 1:
        return False
    own = where(formula)
    finer = put_in(division, own[0][0])
    return spread(answer, finer) == spread(own, finer)


def is_empty(formula):
    """True if the formula is true nowhere."""
    return not any(where(formula)[1])


def is_everywhere(formula):
    """True if the formula is true at all values of t."""
    return all(where(formula)[1])


def pieces(formula, *, grid):
    """What is told of the pieces of the formula on the grid, from left to right."""
    division, truths = where(formula)
    line = Line(division)
    found = []
    for first, last in _runs(truths):
        low, is_low_closed = _end(line, first, first // 2 - 1, grid)
        high, is_high_closed = _end(line, last, last // 2, grid)
        found.append((low, is_low_closed, high, is_high_closed))
    return found


def _runs(truths):
    """The first and the last cell of each run of cells that are true."""
    runs = []
    first = 0
    for cell, truth in enumerate(truths):
        if not truth:
            first = cell + 1
        elif cell + 1 == len(truths) or not truths[cell + 1]:
            runs.append((first, cell))
    return runs


def _end(line, cell, k, grid):
    """The floor of the end of a piece and whether it is closed: the cell, if it is a root, or the root k."""
    if cell % 2 == 1:
        return (line.roots[cell // 2].floor(grid), True)
    if not 0 <= k < len(line.roots):
        return (None, False)
    return (line.roots[k].floor(grid), False)

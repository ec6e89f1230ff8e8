"""Papers for formulas: divisions with what shows, on each cell, for which blocks it is true."""

from wheretrue.asking import fits
from wheretrue.cells import division_of, is_fine, sign_on
from wheretrue.formulas import atoms_of, truth_by
from wheretrue.lines import Line
from wheretrue.witnesses import block_paper, entry_holds, put_on


def blocks_of(formula):
    """The blocks of the formula, from left to right."""
    return [atom for atom in atoms_of(formula) if atom[0] == "some"]


def _sign_atoms(formula):
    return [atom for atom in atoms_of(formula) if atom[0] == "sign"]


def truth_with(formula, division, *, cell, truths):
    """The truth of the formula on the cell of the division, with these truths for its blocks."""
    told = [fits(sign, sign_on(division, cell, polynomial)) for _, polynomial, sign in _sign_atoms(formula)]
    return _truth(formula, told, truths)


def _truth(formula, sign_truths, block_truths):
    """The truth of the formula with these truths for its sign atoms and for its blocks, each in order."""
    left = {"sign": sign_truths[::-1], "some": block_truths[::-1]}
    return truth_by(formula, [left[atom[0]].pop() for atom in atoms_of(formula)])


def _truths_on_cells(formula, line, rows):
    """The truths of the formula on all cells, with a list for each cell of the truths of the blocks there.

    The division of the line is fine for the polynomials of its sign atoms.
    """
    columns = [[fits(sign, one) for one in line.fine_signs(polynomial)]
               for _, polynomial, sign in _sign_atoms(formula)]
    return [_truth(formula, [column[cell] for column in columns], row) for cell, row in enumerate(rows)]


def is_paper(formula, paper):
    """True if the paper is right for the formula."""
    division, entries, truths = paper
    line = Line(division)
    blocks = blocks_of(formula)
    if len(entries) != line.cell_count() or any([len(row) != len(blocks) for row in entries]):
        return False
    if not all([is_fine(division, atom[1]) for atom in _sign_atoms(formula)]):
        return False
    if _truths_on_cells(formula, line, [_told(row) for row in entries]) != truths:
        return False
    for cell, row in enumerate(entries):
        if not all([entry_holds(block, line, cell, entry) for block, entry in zip(blocks, row)]):
            return False
    return True


def _told(entries):
    """For each entry True or False: whether it is there to show that its block is true."""
    return [word == "yes" for word, _ in entries]


def paper_of(formula):
    """A right paper for the formula."""
    papers = [block_paper(block) for block in blocks_of(formula)]
    polynomials = [atom[1] for atom in _sign_atoms(formula)]
    for paper in papers:
        polynomials.extend(paper[0][0])
    division = division_of(polynomials)
    line = Line(division)
    columns = [put_on(paper, division)[1] for paper in papers]
    entries = [[column[cell] for column in columns] for cell in range(line.cell_count())]
    return division, entries, _truths_on_cells(formula, line, [_told(row) for row in entries])

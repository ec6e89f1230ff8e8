"""The signs of several polynomials on the whole line, kept as bits."""

from wheretrue.cells import division_of
from wheretrue.lines import Line
from wheretrue.polynomials import plain


class SignTable:
    """The signs of polynomials on the cells of their division; in whole numbers the bit k is that of cell k."""

    def __init__(self, polynomials):
        different = {}
        for a in polynomials:
            one = plain(a)
            different[tuple(one)] = one
        self.line = Line(division_of(list(different.values())))
        # By plain polynomials, the bits of the cells where they are less than 0, and where they are greater.
        self.known = {}

    def sign_bits(self, a):
        """The bits of the cells where a, one of the polynomials or its opposite, is less than 0, 0, and greater."""
        one = plain(a)
        key = tuple(one)
        if key not in self.known:
            self.known[key] = _bits_of(self.line.fine_signs(one))
        below, above = self.known[key]
        zero = self.everywhere() - below - above
        return (below, zero, above) if a == [] or a[-1] > 0 else (above, zero, below)

    def everywhere(self):
        """The bits of all cells."""
        return (1 << self.line.cell_count()) - 1


def _bits_of(signs):
    below = above = 0
    for cell, sign in enumerate(signs):
        if sign < 0:
            below |= 1 << cell
        elif sign > 0:
            above |= 1 << cell
    return (below, above)

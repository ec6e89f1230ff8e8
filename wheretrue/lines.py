"""The real line with the roots of a division on it, in order."""

from itertools import pairwise

from wheretrue.errors import NotFine
from wheretrue.isolating import isolated
from wheretrue.numbers import number
from wheretrue.polynomials import common_divisor, quotient, square_free
from wheretrue.realroots import real_roots, sign_of_value


def divisors_with(a, parts):
    """For each of the parts of a division its common divisor with a; raises NotFine if a has another real root."""
    if a == []:
        return list(parts)
    divisors = []
    rest = square_free(a)
    for part in parts:
        divisor = common_divisor(part, rest)
        divisors.append(divisor)
        rest = quotient(rest, divisor)
    if isolated(rest) != []:
        raise NotFine()
    return divisors


class Line:
    """The roots of a division, ascending; the place of each one is that of its part, and its number in this part."""

    def __init__(self, division):
        self.parts = division[0]
        marks = []
        for k, part in enumerate(self.parts):
            marks = _merged(marks, [(root, (k, many)) for many, root in enumerate(real_roots(part))])
        self.roots = [root for root, _ in marks]
        self.places = [place for _, place in marks]
        # The samples that were told, by their cells.
        self.samples = {}

    def cell_of(self, x):
        """The cell in which the number x lies."""
        for k, root in enumerate(self.roots):
            side = root.compared(x)
            if side >= 0:
                return 2 * k + 1 if side == 0 else 2 * k
        return 2 * len(self.roots)

    def cell_count(self):
        """The number of the cells."""
        return 2 * len(self.roots) + 1

    def sample(self, cell):
        """The sample of the stretch, a cell with an even number."""
        if cell not in self.samples:
            self.samples[cell] = self._found_sample(cell)
        return self.samples[cell]

    def _found_sample(self, cell):
        before = cell // 2
        if self.roots == []:
            return (0, 1)
        if before == 0:
            return _sample_left_of(self.roots[0])
        if before == len(self.roots):
            return (self.roots[-1].floor(1) + 1, 1)
        return _sample_between(self.roots[before - 1], self.roots[before])

    def zeros(self, a):
        """True or False for each root: whether a is 0 there; raises NotFine if a has another real root."""
        divisors = divisors_with(a, self.parts)
        return [root.is_common(divisors[place[0]]) for root, place in zip(self.roots, self.places)]

    def sign_on(self, cell, a):
        """The sign of a on the cell; raises NotFine if a has a real root that is none of these roots."""
        zeros = self.zeros(a)
        if cell % 2 == 1 and zeros[cell // 2]:
            return 0
        # At a root at which it is not 0, the sign is that on the stretch before it.
        return sign_of_value(a, self.sample(cell - cell % 2))

    def signs_on(self, a):
        """The signs of a on all cells, in order; raises NotFine likewise."""
        zeros = self.zeros(a)
        signs = [sign_of_value(a, self.sample(0))]
        for k, is_zero in enumerate(zeros):
            sign = sign_of_value(a, self.sample(2 * k + 2))
            signs.extend([0 if is_zero else sign, sign])
        return signs

    def fine_signs(self, a):
        """The signs of a on all cells, in order, if it is sure that all real roots of a are among these roots."""
        if a == []:
            return [0] * self.cell_count()
        p = square_free(a)
        samples = [self.sample(cell) for cell in range(0, self.cell_count(), 2)]
        signs = [sign_of_value(a, samples[0])]
        for before, behind in pairwise(samples):
            sign = sign_of_value(a, behind)
            # At its roots, and nowhere else, a square-free polynomial changes its sign.
            is_zero = sign_of_value(p, before) != sign_of_value(p, behind)
            signs.extend([0 if is_zero else sign, sign])
        return signs

    def sign_in(self, cell, a):
        """The sign that a has at all numbers of the cell, or None if it has several; the roots of a are any."""
        if cell % 2 == 1:
            return self.roots[cell // 2].sign_of(a)
        if a == []:
            return 0
        sign = sign_of_value(a, self.sample(cell))
        return None if sign == 0 or self._has_root_in(cell, a) else sign

    def _has_root_in(self, cell, a):
        """True if a, which is not 0, has a root in the stretch."""
        k = cell // 2
        ends = self.roots[max(k - 1, 0):k], self.roots[k:k + 1]
        p = square_free(a)
        if all([_is_surely_outside(root, *ends) for root in real_roots(p)]):
            return False
        # Without the roots at the ends, each one can be told from them.
        for end in [*ends[0], *ends[1]]:
            p = quotient(p, common_divisor(p, end.polynomial))
        return any([_is_between(root, *ends) for root in real_roots(p)])

    def thinned(self, marks):
        """The division with those parts alone that have a root at which the marks change, and its cells.

        The marks are a list with one for each cell. Each cell of the division is told by a cell of this line in it.
        """
        kept = {}
        for k, (part, _) in enumerate(self.places):
            if not marks[2 * k] == marks[2 * k + 1] == marks[2 * k + 2]:
                kept[part] = True
        cells = [0]
        for k, (part, _) in enumerate(self.places):
            if part in kept:
                cells.extend([2 * k + 1, 2 * k + 2])
        return ([list(self.parts[part]) for part in sorted(kept)], len(cells) // 2), cells


def _is_surely_outside(root, lefts, rights):
    """True if the root is not between the ends, each in a list of its own, that may be empty; False if it may be."""
    for left in lefts:
        if root.high * left.scale <= left.low * root.scale:
            return True
    for right in rights:
        if right.high * root.scale <= root.low * right.scale:
            return True
    return False


def _is_between(root, lefts, rights):
    """True if the root, which is none of the ends, is between them."""
    return all([left.is_before(root) for left in lefts]) and all([root.is_before(right) for right in rights])


def _merged(first, second):
    """The tuples of both lists, each beginning with a root, as one ascending list; the two lists are ascending."""
    found = []
    i = j = 0
    while i < len(first) and j < len(second):
        if first[i][0].is_before(second[j][0]):
            found.append(first[i])
            i += 1
        else:
            found.append(second[j])
            j += 1
    return found + first[i:] + second[j:]


def _sample_left_of(root):
    """The greatest whole number that is less than the root."""
    floor = root.floor(1)
    if root.compared((floor, 1)) == 0:
        return (floor - 1, 1)
    return (floor, 1)


def _sample_between(left, right):
    """The number between two roots with the least power of 2 as denominator, and of these the least one."""
    scale = 1
    floor = left.floor(1)
    while right.compared((floor + 1, scale)) <= 0:
        scale = 2 * scale
        floor = 2 * floor
        if left.compared((floor + 1, scale)) >= 0:
            floor += 1
    return number(floor + 1, scale)

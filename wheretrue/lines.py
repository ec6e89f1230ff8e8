"""The real line with the roots of a division on it, in order."""

from wheretrue.errors import NotFine
from wheretrue.isolating import isolated
from wheretrue.numbers import number
from wheretrue.polynomials import common_divisor, quotient, square_free
from wheretrue.realroots import real_roots, sign_of_value


def divisors_with(a, parts):
    """For each of the parts of a division its common divisor with a; raises NotFine if a has another real root."""
    if a == []:
        return list(parts)
    divisors = []
    rest = square_free(a)
    for part in parts:
        divisor = common_divisor(part, rest)
        divisors.append(divisor)
        rest = quotient(rest, divisor)
    if isolated(rest) != []:
        raise NotFine()
    return divisors


class Line:
    """The roots of a division, ascending; the place of each one is that of its part, and its number in this part."""

    def __init__(self, division):
        self.parts = division[0]
        marks = []
        for k, part in enumerate(self.parts):
            marks = _merged(marks, [(root, (k, many)) for many, root in enumerate(real_roots(part))])
        self.roots = [root for root, _ in marks]
        self.places = [place for _, place in marks]

    def cell_of(self, x):
        """The cell in which the number x lies."""
        for k, root in enumerate(self.roots):
            side = root.compared(x)
            if side >= 0:
                return 2 * k + 1 if side == 0 else 2 * k
        return 2 * len(self.roots)

    def sample(self, cell):
        """The sample of the stretch, a cell with an even number."""
        before = cell // 2
        if self.roots == []:
            return (0, 1)
        if before == 0:
            return _sample_left_of(self.roots[0])
        if before == len(self.roots):
            return (self.roots[-1].floor(1) + 1, 1)
        return _sample_between(self.roots[before - 1], self.roots[before])

    def zeros(self, a):
        """True or False for each root: whether a is 0 there; raises NotFine if a has another real root."""
        divisors = divisors_with(a, self.parts)
        return [root.is_common(divisors[place[0]]) for root, place in zip(self.roots, self.places)]

    def sign_on(self, cell, a):
        """The sign of a on the cell; raises NotFine if a has a real root that is none of these roots."""
        zeros = self.zeros(a)
        if cell % 2 == 1 and zeros[cell // 2]:
            return 0
        # At a root at which it is not 0, the sign is that on the stretch before it.
        return sign_of_value(a, self.sample(cell - cell % 2))

    def signs_on(self, a):
        """The signs of a on all cells, in order; raises NotFine likewise."""
        zeros = self.zeros(a)
        signs = [sign_of_value(a, self.sample(0))]
        for k, is_zero in enumerate(zeros):
            sign = sign_of_value(a, self.sample(2 * k + 2))
            signs.extend([0 if is_zero else sign, sign])
        return signs


def _merged(first, second):
    """The tuples of both lists, each beginning with a root, as one ascending list; the two lists are ascending."""
    found = []
    i = j = 0
    while i < len(first) and j < len(second):
        if first[i][0].is_before(second[j][0]):
            found.append(first[i])
            i += 1
        else:
            found.append(second[j])
            j += 1
    return found + first[i:] + second[j:]


def _sample_left_of(root):
    """The greatest whole number that is less than the root."""
    floor = root.floor(1)
    if root.compared((floor, 1)) == 0:
        return (floor - 1, 1)
    return (floor, 1)


def _sample_between(left, right):
    """The number between two roots with the least power of 2 as denominator, and of these the least one."""
    scale = 1
    floor = left.floor(1)
    while right.compared((floor + 1, scale)) <= 0:
        scale = 2 * scale
        floor = 2 * floor
        if left.compared((floor + 1, scale)) >= 0:
            floor += 1
    return number(floor + 1, scale)

"""Formulas, blocks and polynomials, made at random but always alike, to hold the program's answers against."""

import random

from helpers import cut, product_by_powers

SIGNS = ("<", "<=", "=", "!=", ">=", ">")
ROW_SIGNS = ("<", "<=", "=")


class Maker:
    def __init__(self, seed):
        self.source = random.Random(seed)

    def polynomial(self, most, bound):
        """A polynomial of a degree of at most `most`, often a short one, with coefficients less than the bound."""
        many = self.source.randint(0, most + 1)
        return cut([self.source.randint(1 - bound, bound - 1) for _ in range(many)])

    def row(self, many, bound, signs=ROW_SIGNS):
        coefficients = [self.polynomial(2, bound) for _ in range(many)]
        return (coefficients, self.polynomial(2, bound), self.source.choice(signs))

    def block(self, many=None, rows=None, bound=None, signs=ROW_SIGNS):
        many = many or self.source.randint(1, 2)
        rows = rows or self.source.randint(1, 5)
        # With small coefficients much vanishes, with great ones nothing does.
        bound = bound or self.source.choice([2, 2, 3, 5, 20])
        return ("some", many, [self.row(many, bound, signs) for _ in range(rows)])

    def sign_atom(self, bound=None):
        bound = bound or self.source.choice([2, 3, 10, 100])
        return ("sign", self.polynomial(4, bound), self.source.choice(SIGNS))

    def formula(self, sign_atoms, blocks, **more):
        """A formula with so many atoms, together at least one."""
        parts = [self.sign_atom() for _ in range(sign_atoms)] + [self.block(**more) for _ in range(blocks)]
        self.source.shuffle(parts)
        return self.joined(parts, 6)

    def joined(self, parts, depth):
        """A formula of these atoms in which nothing stands within more than so many others."""
        if depth > 3 and self.source.random() < 0.3:
            return ("not", self.joined(parts, depth - 1))
        if len(parts) == 1:
            return parts[0]
        # So the halves are never too great for the depth that is left.
        middle = len(parts) // 2 + (self.source.randint(0, 1) if len(parts) % 2 else 0)
        word = self.source.choice(["and", "or"])
        return (word, self.joined(parts[:middle], depth - 1), self.joined(parts[middle:], depth - 1))


def product_of_all(polynomials):
    found = [1]
    for polynomial in polynomials:
        found = product_by_powers(found, polynomial)
    return found

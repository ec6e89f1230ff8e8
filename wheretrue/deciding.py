"""Deciding single blocks on the whole line, with proofs.

What a block is at t depends on the signs of few polynomials alone: the minors of the table of its rows. The line is
divided by their roots. On a cell on which the block is true some numbers for it are a sum of at most three vectors at
the edges of what its rows leave, and on any other cell at most three of its rows together show that there are none.
What does so on one cell often does on the next ones, too: then they can be joined.
"""

from itertools import combinations

from wheretrue.signtable import SignTable
from wheretrue.vectors import crossed, minor, sum_of_lists, vector_product, with_both_signs, with_factors

# What the rows leave lies in the plane: the sum of so many vectors at its edges can be anywhere within it.
MOST_ADDED = 3


class Proof:
    """What shows that a block is true, or that it is not, on the cells whose bits are valid.

    It is the sum of lists of polynomials. Cells can be joined if each of the patterns, bits too, has one bit on them.
    """

    def __init__(self, is_true, lists, valid, patterns):
        self.is_true = is_true
        self.lists = lists
        self.valid = valid
        self.patterns = patterns

    def polynomials(self):
        """The list of its polynomials."""
        return sum_of_lists(self.lists)

    def reach(self, cell):
        """The first cell behind this one, on which it is valid, that cannot be joined with it."""
        wrong = ~self.valid
        for bits in self.patterns:
            wrong |= ~bits if _has(bits, cell) else bits
        wrong = wrong >> cell
        return cell + (wrong & -wrong).bit_length() - 1


def _has(bits, cell):
    return (bits >> cell) & 1 == 1


def block_truths(block):
    """A division, and a list with True or False for each of its cells: whether the block is true there."""
    conditions = _conditions(block)
    refutations = _refutations(conditions)
    table = SignTable(_polynomials_against(refutations))
    refuted = _valid_bits(_proofs_against(refutations, conditions, table))
    truths = [not _has(refuted, cell) for cell in range(table.line.cell_count())]
    division, cells = table.line.thinned(truths)
    return division, [truths[cell] for cell in cells]


def block_proofs(block):
    """A division, and a list with a Proof for each of its cells.

    The polynomials of one that it is true are x, y and z, as a vector; those of one that it is not are multipliers.
    """
    conditions = _conditions(block)
    refutations = _refutations(conditions)
    edges = _edges(conditions, block[1])
    products = [a for _, row in edges for a in row]
    table = SignTable(_polynomials_against(refutations) + products)
    against = _proofs_against(refutations, conditions, table)
    refuted = _valid_bits(against)
    vectors = _proofs_of_edges(edges, conditions, table)
    proofs = []
    marks = []
    while len(marks) < table.line.cell_count():
        cell = len(marks)
        if _has(refuted, cell):
            proof = _farthest([one for one in against if _has(one.valid, cell)], cell)
        else:
            proof = _farthest(_added(vectors, conditions, cell), cell)
        marks.extend([len(proofs)] * (proof.reach(cell) - cell))
        proofs.append(proof)
    division, cells = table.line.thinned(marks)
    return division, [proofs[marks[cell]] for cell in cells]


def _farthest(proofs, cell):
    return max(proofs, key=lambda proof: proof.reach(cell))


def _valid_bits(proofs):
    """The bits of the cells on which one of the proofs is valid."""
    found = 0
    for proof in proofs:
        found |= proof.valid
    return found


def _conditions(block):
    """The rows as vectors, each with its sign: (vector, sign)."""
    _, many, rows = block
    found = []
    for coefficients, constant, sign in rows:
        # A block with one number is one with two, the second of which stands in no row.
        second = coefficients[1] if many == 2 else []
        found.append(([coefficients[0], second, constant], sign))
    return found


def _axes():
    """The vectors of rows that would say that the first number is 0, and that the second one is."""
    return [[[1], [], []], [[], [1], []]]


def _polynomials_against(refutations):
    """All polynomials whose signs tell where the multipliers show something."""
    return [a for multipliers, rest in refutations for a in multipliers + rest]


def _refutations(conditions):
    """Lists of multipliers, one for each row, with the sum of the rows times these: (multipliers, sum).

    Where the block is not true, some of them show it.
    """
    rows = [vector for vector, _ in conditions]
    vectors = rows + _axes()
    found = {}
    # Three rows, times the minors of the coefficients of the others, have a sum without numbers. Where one or two rows
    # are enough, axes stand in for the others: they are left out, and the sum tells where that is right.
    for i, j, k in combinations(range(len(vectors)), 3):
        multipliers = [[] for _ in vectors]
        multipliers[i] = minor(vectors[j], vectors[k], 0, 1)
        multipliers[j] = minor(vectors[k], vectors[i], 0, 1)
        multipliers[k] = minor(vectors[i], vectors[j], 0, 1)
        _put_both(found, multipliers[:len(rows)])
    return [(multipliers, with_factors(multipliers, rows)) for multipliers in found.values()]


def _put_both(found, polynomials):
    """Puts the polynomials with either sign into the dict, each list only once; nothing if all are 0."""
    if any([a != [] for a in polynomials]):
        for one in with_both_signs(polynomials):
            found[tuple([tuple(a) for a in one])] = one


def _proofs_against(refutations, conditions, table):
    return [_proof_against(multipliers, rest, conditions, table) for multipliers, rest in refutations]


def _proof_against(multipliers, rest, conditions, table):
    """The Proof that the block is not true by these multipliers, with this vector as the sum of the rows."""
    valid = table.sign_bits(rest[0])[1] & table.sign_bits(rest[1])[1]
    _, zero, above = table.sign_bits(rest[2])
    patterns = [zero, above]
    strict = 0
    for a, (_, sign) in zip(multipliers, conditions):
        below, _, higher = table.sign_bits(a)
        patterns.extend([below, higher])
        if sign != "=":
            valid &= ~below
        if sign == "<":
            strict |= higher
    return Proof(False, [multipliers], valid & (above | zero & strict), patterns)


def _bounds(conditions):
    """The rows, and one more: z is greater than 0 in a vector that stands for numbers."""
    return conditions + [([[], [], [-1]], "<")]


def _edges(conditions, many):
    """Vectors at the edges of what the rows leave, with the products of the bounds with them: (vector, products)."""
    bounds = [vector for vector, _ in _bounds(conditions)]
    found = {}
    # Where what is left has no such edges, as the rows have one direction or none, there are some on the axes.
    lines = bounds + _axes()
    for u, v in combinations(lines, 2):
        x, y, z = crossed(u, v)
        _put_both(found, [x, y if many == 2 else [], z])
    vectors = sorted(found.values(), key=_size)
    return [(vector, [vector_product(bound, vector) for bound in bounds]) for vector in vectors]


def _size(polynomials):
    return sum([len(a) for a in polynomials])


def _proofs_of_edges(edges, conditions, table):
    """A Proof for each vector: valid where nothing is against adding it, with patterns of where it fulfills "<"."""
    proofs = []
    for vector, products in edges:
        valid = table.everywhere()
        patterns = []
        for a, (_, sign) in zip(products, _bounds(conditions)):
            below, zero, _ = table.sign_bits(a)
            valid &= zero if sign == "=" else zero | below
            patterns.append(below)
        proofs.append(Proof(True, [vector], valid, patterns))
    return proofs


def _added(vectors, conditions, cell):
    """Proofs that the block is true on the cell: sums of vectors, the patterns of which tell where they fulfill "<"."""
    here = [proof for proof in vectors if _has(proof.valid, cell)]
    strict = [place for place, (_, sign) in enumerate(_bounds(conditions)) if sign == "<"]
    found = []
    for many in range(1, MOST_ADDED + 1):
        for chosen in combinations(here, many):
            if all([any([_has(proof.patterns[place], cell) for proof in chosen]) for place in strict]):
                found.append(_sum_of_proofs(chosen))
    return found


def _sum_of_proofs(proofs):
    valid = proofs[0].valid
    patterns = proofs[0].patterns
    for proof in proofs[1:]:
        valid &= proof.valid
        patterns = [first | second for first, second in zip(patterns, proof.patterns)]
    return Proof(True, [proof.lists[0] for proof in proofs], valid, patterns)

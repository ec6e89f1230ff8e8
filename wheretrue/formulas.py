"""Formulas: tuples of a word and its parts, true or not at each real value of t."""

from wheretrue.errors import BadForm, BadSign, BadSize, TooDeep
from wheretrue.numbers import is_whole
from wheretrue.polynomials import check_polynomial

# For each of the five words, how many elements its tuple has.
LENGTHS = {"sign": 3, "some": 3, "not": 2, "and": 3, "or": 3}
OPPOSITE_SIGNS = {"<": ">=", "<=": ">", "=": "!=", "!=": "=", ">=": "<", ">": "<="}
OPPOSITE_WORDS = {"and": "or", "or": "and"}
SIGNS = ("<", "<=", "=", "!=", ">=", ">")
ROW_SIGNS = ("<", "<=", "=")
MOST_AROUND = 6
MOST_SIGN_ATOMS = 6
MOST_BLOCKS = 3
MOST_ROWS = 5


def check_formula(formula):
    """Raises the first error that is due, or returns None if the formula is right."""
    _check_whole(formula, are_uses_right=False)


def check_condition(condition):
    """Raises what check_formula raises, but ("use", other) is a right part, which counts as no atom."""
    _check_whole(condition, are_uses_right=True)


def _check_whole(formula, *, are_uses_right):
    _check_part(formula, 0, are_uses_right)
    words = _words_of(formula)
    if words.count("sign") > MOST_SIGN_ATOMS or words.count("some") > MOST_BLOCKS:
        raise BadSize()


def _check_part(part, around, are_uses_right):
    """Checks a part that stands within so many others, and then all parts of it."""
    if around > MOST_AROUND:
        raise TooDeep()
    word = part[0]
    if word == "use" and are_uses_right and len(part) == 2:
        return
    if LENGTHS.get(word) != len(part):
        raise BadForm()
    if word == "sign":
        _check_sign_atom(part)
    elif word == "some":
        _check_block(part)
    else:
        for inner in part[1:]:
            _check_part(inner, around + 1, are_uses_right)


def _words_of(condition):
    """The first elements of all parts, from left to right."""
    words = [condition[0]]
    if condition[0] not in ("sign", "some", "use"):
        for part in condition[1:]:
            words.extend(_words_of(part))
    return words


def _check_sign_atom(atom):
    _, polynomial, sign = atom
    check_polynomial(polynomial, most=4, bound=100)
    if sign not in SIGNS:
        raise BadSign()


def _check_block(block):
    _, many, rows = block
    if not is_whole(many) or many not in (1, 2):
        raise BadSize()
    if not 1 <= len(rows) <= MOST_ROWS:
        raise BadSize()
    for row in rows:
        _check_row(row, many)


def _check_row(row, many):
    coefficients, constant, sign = row
    if len(coefficients) != many:
        raise BadSize()
    for polynomial in [*coefficients, constant]:
        check_polynomial(polynomial, most=2, bound=20)
    if sign not in ROW_SIGNS:
        raise BadSign()


def atoms_of(formula):
    """The list of the atoms, from left to right, each time that it stands there."""
    if _is_atom(formula):
        return [copied(formula)]
    atoms = []
    for part in formula[1:]:
        atoms.extend(atoms_of(part))
    return atoms


def polynomials_of(formula):
    """The list of all polynomials, from left to right; of a row the constant comes last."""
    polynomials = []
    for atom in atoms_of(formula):
        if atom[0] == "sign":
            polynomials.append(atom[1])
        else:
            for coefficients, constant, _ in atom[2]:
                polynomials.extend(coefficients)
                polynomials.append(constant)
    return polynomials


def size_of(formula):
    """How many sign atoms, how many blocks, and within how many others the deepest part stands."""
    if _is_atom(formula):
        return (1, 0, 0) if formula[0] == "sign" else (0, 1, 0)
    sizes = [size_of(part) for part in formula[1:]]
    sign_atoms = sum([size[0] for size in sizes])
    blocks = sum([size[1] for size in sizes])
    return (sign_atoms, blocks, 1 + max([size[2] for size in sizes]))


def replaced(formula, atoms):
    """The formula with these formulas, in order, in the places of its atoms."""
    if _is_atom(formula):
        return copied(atoms[0])
    if formula[0] == "not":
        return ("not", replaced(formula[1], atoms))
    many = _atom_count(formula[1])
    return (formula[0], replaced(formula[1], atoms[:many]), replaced(formula[2], atoms[many:]))


def truth_by(formula, truths):
    """The truth of the formula by truths of its atoms, in order: True, False or None, not known."""
    if _is_atom(formula):
        return truths[0]
    if formula[0] == "not":
        truth = truth_by(formula[1], truths)
        return None if truth is None else not truth
    many = _atom_count(formula[1])
    first = truth_by(formula[1], truths[:many])
    second = truth_by(formula[2], truths[many:])
    return _joined(formula[0], first, second)


def _joined(word, first, second):
    """The truth of "and" or "or" by the truths of its two parts."""
    # One part with this truth is enough, whatever the other one is.
    settling = word == "or"
    if first == settling or second == settling:
        return settling
    if first is None or second is None:
        return None
    return not settling


def pushed(formula):
    """The formula with "not" in front of blocks alone, true at exactly the same t."""
    return _pushed(formula, False)


def _pushed(formula, negated):
    """The pushed form of the formula, or of "not" and the formula if it is negated."""
    word = formula[0]
    if word == "not":
        return _pushed(formula[1], not negated)
    if word == "sign":
        sign = OPPOSITE_SIGNS[formula[2]] if negated else formula[2]
        return (word, list(formula[1]), sign)
    if word == "some":
        block = copied(formula)
        return ("not", block) if negated else block
    joining = OPPOSITE_WORDS[word] if negated else word
    return (joining, _pushed(formula[1], negated), _pushed(formula[2], negated))


def _is_atom(formula):
    return formula[0] in ("sign", "some")


def _atom_count(formula):
    sign_atoms, blocks, _ = size_of(formula)
    return sign_atoms + blocks


def copied(formula):
    """The same formula with new lists, which the caller may change."""
    word = formula[0]
    if word == "sign":
        return (word, list(formula[1]), formula[2])
    if word == "some":
        return (word, formula[1], [_copied_row(row) for row in formula[2]])
    return (word, *[copied(part) for part in formula[1:]])


def _copied_row(row):
    coefficients, constant, sign = row
    return ([list(polynomial) for polynomial in coefficients], list(constant), sign)

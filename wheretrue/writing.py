"""The written form of polynomials and formulas."""


def write_polynomial(polynomial):
    """The written form: the coefficients from the constant on, with a comma between two of them."""
    if polynomial == []:
        return "0"
    return ",".join([str(coefficient) for coefficient in polynomial])


def write_formula(formula):
    """The written form: one line of words, each in front of its parts."""
    return " ".join(_words(formula)) + "\n"


def _words(formula):
    word = formula[0]
    if word == "sign":
        return [word, write_polynomial(formula[1]), formula[2]]
    if word == "some":
        return _block_words(formula)
    words = [word]
    for part in formula[1:]:
        words.extend(_words(part))
    return words


def _block_words(block):
    word, many, rows = block
    words = [word, str(many), str(len(rows))]
    for coefficients, constant, sign in rows:
        words.extend([write_polynomial(polynomial) for polynomial in [*coefficients, constant]])
        words.append(sign)
    return words

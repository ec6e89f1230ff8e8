"""Reading formulas from their written form.

The form of the whole text is looked at first, word by word: what a word has to be is told by the words before it.
"""

from wheretrue.errors import BadText
from wheretrue.formulas import LENGTHS, ROW_SIGNS, SIGNS, check_formula

DIGITS = "0123456789"
MOST_DIGITS = 3
MOST_COEFFICIENTS = 12
# What follows the first word of a formula.
FORMULA_PARTS = {
    "sign": ("polynomial", "sign"),
    "some": ("many",),
    "not": ("formula",),
    "and": ("formula", "formula"),
    "or": ("formula", "formula"),
}
# What follows the number of the numbers that are asked for, and what one row of so many has.
MANY_PARTS = {"1": ("rows of 1",), "2": ("rows of 2",)}
ROW_PARTS = {
    "rows of 1": ("polynomial", "polynomial", "row sign"),
    "rows of 2": ("polynomial", "polynomial", "polynomial", "row sign"),
}
ROW_COUNTS = {"1": 1, "2": 2, "3": 3, "4": 4, "5": 5}


def words_of(line):
    """The words of the line with their columns, (column, word); an empty word where a space is too much."""
    words = []
    column = 1
    for word in line.split(" "):
        words.append((column, word))
        column += len(word) + 1
    return words


def read_polynomial(word):
    """The polynomial whose written form the word is, or None if it is none."""
    if word == "0":
        return []
    coefficients = [_read_whole(part) for part in word.split(",")]
    if len(coefficients) > MOST_COEFFICIENTS or None in coefficients or coefficients[-1] == 0:
        return None
    return coefficients


def _read_whole(text):
    """The whole number whose written form the text is, or None if it is none."""
    if text == "0":
        return 0
    digits = text.removeprefix("-")
    if not 1 <= len(digits) <= MOST_DIGITS or digits[0] == "0":
        return None
    if not all([digit in DIGITS for digit in digits]):
        return None
    return int(text)


def read_formula(text):
    """The formula whose written form the text is; raises BadText or what check_formula raises."""
    words = _checked_words(text)
    formula = _made(words)
    check_formula(formula)
    return formula


def _checked_words(text):
    """The words of a text of a right form, each with what it is: (kind, word)."""
    lines = text.split("\n")
    words = _checked_line(lines[0])
    if len(lines) == 1:
        raise BadText(1, len(text) + 1)
    if lines[1:] != [""]:
        # The first word of a second line is wrong, whatever it is.
        raise BadText(2, 1)
    return words


def _checked_line(line):
    found = []
    # The kinds of the words that have to come, the next one last.
    expected = ["formula"]
    for column, word in words_of(line):
        kind = expected.pop() if expected != [] else "nothing"
        parts = _parts_behind(kind, word)
        if parts is None:
            raise BadText(1, column)
        found.append((kind, word))
        expected.extend(parts[::-1])
    if expected != []:
        raise BadText(1, len(line) + 1)
    return found


def _parts_behind(kind, word):
    """The kinds of the words that have to follow a word of this kind, in order, or None if the word is wrong."""
    if kind == "formula":
        return FORMULA_PARTS.get(word)
    if kind == "many":
        return MANY_PARTS.get(word)
    if kind in ROW_PARTS:
        return ROW_PARTS[kind] * ROW_COUNTS[word] if word in ROW_COUNTS else None
    is_right = False
    if kind == "polynomial":
        is_right = read_polynomial(word) is not None
    elif kind == "sign":
        is_right = word in SIGNS
    elif kind == "row sign":
        is_right = word in ROW_SIGNS
    return () if is_right else None


def _made(words):
    """The formula of these words, made from the end on: so what belongs to a word is there before it."""
    values = []
    for kind, word in reversed(words):
        if kind == "formula":
            values.append((word, *_taken(values, LENGTHS[word] - 1)))
        elif kind == "many":
            values.append(int(word))
        elif kind in ROW_PARTS:
            size = len(ROW_PARTS[kind])
            values.append(_rows(_taken(values, size * ROW_COUNTS[word]), size))
        elif kind == "polynomial":
            values.append(read_polynomial(word))
        else:
            values.append(word)
    return values[0]


def _taken(values, many):
    """Takes so many values off the end of the list, and returns them from the last one on."""
    taken = values[-many:][::-1]
    del values[-many:]
    return taken


def _rows(values, size):
    """The rows of a block, each of so many values: the polynomials, and the sign as the last one."""
    pieces = [values[k:k + size] for k in range(0, len(values), size)]
    return [(piece[:-2], piece[-2], piece[-1]) for piece in pieces]

"""Rows and the numbers that are asked for: taking a number out, and deciding and finding at one value of t."""

from wheretrue.numbers import compare, divided, minus, plus, times, total
from wheretrue.polynomials import content, multiply, scaled_value, subtract, value_at
from wheretrue.realroots import Point, sign_of_whole

# For each of the six signs, the signs of the numbers that are so to 0.
FITTING = {"<": (-1,), "<=": (-1, 0), "=": (0,), "!=": (-1, 1), ">=": (0, 1), ">": (1,)}


def fits(sign, value):
    """True if a number with the sign value, -1, 0 or 1, is to 0 as the sign says."""
    return value in FITTING[sign]


def taken_out(rows, k, *, signs):
    """The rows that come of taking x_k out, when these are the signs of its coefficients, one for each row."""
    for place, row in enumerate(rows):
        if row[2] == "=" and signs[place] != 0:
            return _with_one_used_up(rows, k, signs, place)
    return _with_pairs(rows, k, signs)


def _with_one_used_up(rows, k, signs, place):
    """The rows but the one at this place, which tells x_k by the other numbers."""
    used = rows[place]
    sign = signs[place]
    factor = [c * sign for c in used[0][k]]
    found = []
    for other, row in enumerate(rows):
        if other != place and signs[other] == 0:
            found.append(_left_out(row, k))
        elif other != place:
            used_factor = [c * sign for c in row[0][k]]
            found.append(_joined(row, factor, used, used_factor, k, row[2]))
    return found


def _with_pairs(rows, k, signs):
    """The rows without x_k, then one for each pair of a row that bounds x_k above and one that bounds it below."""
    found = [_left_out(row, k) for row, sign in zip(rows, signs) if sign == 0]
    upper = [row for row, sign in zip(rows, signs) if sign == 1]
    lower = [row for row, sign in zip(rows, signs) if sign == -1]
    for above in upper:
        for below in lower:
            sign = "<" if "<" in (above[2], below[2]) else "<="
            found.append(_joined(below, above[0][k], above, below[0][k], k, sign))
    return found


def _left_out(row, k):
    """The row without its coefficient of x_k."""
    coefficients, constant, sign = row
    others = coefficients[:k] + coefficients[k + 1:]
    return ([list(polynomial) for polynomial in others], list(constant), sign)


def _joined(row, factor, other, other_factor, k, sign):
    """The row times its factor, less the other row times the other factor, without x_k and a common whole number."""
    first = [*row[0][:k], *row[0][k + 1:], row[1]]
    second = [*other[0][:k], *other[0][k + 1:], other[1]]
    polynomials = [subtract(multiply(a, factor), multiply(b, other_factor)) for a, b in zip(first, second)]
    divisor = content([content(polynomial) for polynomial in polynomials])
    # If all coefficients are 0, there are none left that would be divided by 0.
    polynomials = [[c // divisor for c in polynomial] for polynomial in polynomials]
    return (polynomials[:-1], polynomials[-1], sign)


def signs_at(rows, k, t):
    """The signs of the coefficients of x_k at the number t."""
    return _signs_by(rows, k, Point(t))


def _signs_by(rows, k, place):
    return [place.sign_of(row[0][k]) for row in rows]


def block_at(many, rows, t):
    """True if there are so many numbers that fulfill all rows at the number t."""
    return block_by(many, [_row_at(row, t) for row in rows], Point(t))


def block_by(many, rows, place):
    """True if there are so many numbers that fulfill all rows at the place, a Point or a Root."""
    return _all_fit(_stages(many, rows, place)[-1], place)


def _stages(many, rows, place):
    """The rows, and the rows that come of them when their numbers are taken out, the last one first."""
    stages = [rows]
    for k in reversed(range(many)):
        stages.append(taken_out(stages[-1], k, signs=_signs_by(stages[-1], k, place)))
    return stages


def _all_fit(rows, place):
    """True if the constant of each row has a sign at the place that fits the sign of the row."""
    return all([fits(sign, place.sign_of(constant)) for _, constant, sign in rows])


def numbers_at(many, rows, t):
    """Numbers that fulfill all rows at the number t, or None if there are none."""
    place = Point(t)
    stages = _stages(many, [_row_at(row, t) for row in rows], place)
    if not _all_fit(stages[-1], place):
        return None
    found = []
    for stage in stages[-2::-1]:
        found.append(_chosen(stage, found))
    return found


def _row_at(row, t):
    """The row with the values at t, all times one whole number greater than 0, as its polynomials."""
    coefficients, constant, sign = row
    polynomials = [*coefficients, constant]
    size = max([len(polynomial) for polynomial in polynomials])
    values = [_value_of_size(polynomial, size, t) for polynomial in polynomials]
    return (values[:-1], values[-1], sign)


def _value_of_size(polynomial, size, t):
    """The value at t, times the denominator of t for each of so many coefficients but one, as a polynomial."""
    # Zeros at the end do not change the value, but how often the denominator counts.
    value = scaled_value([*polynomial, *[0] * (size - len(polynomial))], t)
    return [value] if value != 0 else []


def _chosen(rows, found):
    """A number for the last coefficient of the rows, whose polynomials are numbers; those before it are found."""
    lows = []
    highs = []
    for row in rows:
        factor = value_at(row[0][-1], (0, 1))
        side = sign_of_whole(factor[0])
        if side != 0:
            bound = divided(minus((0, 1), _sum_at(row, found, (0, 1))), factor)
            if row[2] == "=" or side < 0:
                lows.append(bound)
            if row[2] == "=" or side > 0:
                highs.append(bound)
    return _between(_outermost(lows, 1), _outermost(highs, -1))


def _outermost(numbers, side):
    """The greatest of the numbers if the side is 1, the least if it is -1, or None if there are none."""
    found = None
    for one in numbers:
        if found is None or compare(one, found) == side:
            found = one
    return found


def _between(low, high):
    """A number that is greater than low and less than high, or equal to both; each of them can be None."""
    if low is None and high is None:
        return (0, 1)
    if low is None:
        return minus(high, (1, 1))
    if high is None:
        return plus(low, (1, 1))
    return divided(plus(low, high), (2, 1))


def fulfilled_at(rows, numbers, t):
    """True if the numbers fulfill all rows at the number t."""
    return all([fits(row[2], sign_of_whole(_sum_at(row, numbers, t)[0])) for row in rows])


def _sum_at(row, numbers, t):
    """The sum of the row at t with these numbers for its first coefficients, and without those that are left."""
    coefficients, constant, _ = row
    parts = [times(value_at(polynomial, t), one) for polynomial, one in zip(coefficients, numbers)]
    return plus(total(parts), value_at(constant, t))

"""Real roots of square-free polynomials, each one told as closely as it is needed."""

from wheretrue.isolating import isolated
from wheretrue.numbers import number
from wheretrue.polynomials import common_divisor, derivative, scaled_value


def real_roots(p):
    """The real roots of the square-free polynomial p, ascending."""
    return [Root(p, span) for span in isolated(p)]


def sign_of_whole(n):
    """-1, 0 or 1: the whole number is less than 0, equal to it, or greater."""
    if n == 0:
        return 0
    return 1 if n > 0 else -1


def sign_of_value(a, x):
    """The sign of the value of the polynomial a at x, a tuple (n, d) with d greater than 0."""
    return sign_of_whole(scaled_value(a, x))


def sign_everywhere(a, span):
    """The sign that a has at all numbers of the span and at its ends, or 0 if it cannot be told so easily."""
    low, high, scale = span
    least = greatest = 0
    power = 1
    for coefficient in reversed(a):
        ends = (least * low, least * high, greatest * low, greatest * high)
        least = min(ends) + coefficient * power
        greatest = max(ends) + coefficient * power
        power = power * scale
    if least <= 0 <= greatest:
        return 0
    return sign_of_whole(least)


class Point:
    """A number t, at which the signs of polynomials can be told as at a Root."""

    def __init__(self, t):
        self.t = t

    def sign_of(self, a):
        """The sign of the value of the polynomial a at the number."""
        return sign_of_value(a, self.t)


class Root:
    """The root of a square-free polynomial in a span (low, high, scale), the ends of which are no roots.

    If low and high are equal, the root is there. Otherwise it is the only one between them.
    """

    def __init__(self, polynomial, span):
        self.polynomial = polynomial
        self.low, self.high, self.scale = span
        # Into 2 to the power of so many parts the span is divided next.
        self.bits = 1
        # Where the end is another root, the derivative tells the sign behind it.
        self.sign_before = self._sign_at(self.low) or sign_of_value(derivative(polynomial), (self.low, self.scale))
        while self.low < self.high and 0 in (self._sign_at(self.low), self._sign_at(self.high)):
            self._halve()

    def _sign_at(self, place):
        return sign_of_value(self.polynomial, (place, self.scale))

    def span(self):
        """The span as it is now."""
        return (self.low, self.high, self.scale)

    def sharpen(self):
        """Makes the span, which is not a point yet, at most half as wide."""
        if self._leap():
            self.bits = 2 * self.bits
        else:
            self.bits = max(1, self.bits // 2)
            self._halve()

    def _halve(self):
        middle = self.low + self.high
        self._set(2 * self.low, 2 * self.high, 2 * self.scale)
        sign = self._sign_at(middle)
        if sign == 0 or sign == self.sign_before:
            self.low = middle
        if sign != self.sign_before:
            self.high = middle

    def _set(self, low, high, scale):
        self.low = low
        self.high = high
        self.scale = scale

    def _leap(self):
        """Looks for the root in one of many parts of the span; False if it is not in this part."""
        before = scaled_value(self.polynomial, (self.low, self.scale))
        drop = before - scaled_value(self.polynomial, (self.high, self.scale))
        parts = 1 << self.bits
        scale = parts * self.scale
        wide = self.high - self.low
        # The end of a part that is nearest to where the straight line between the values at the ends is 0.
        near = parts * self.low + wide * ((2 * parts * before + drop) // (2 * drop))
        sign = sign_of_value(self.polynomial, (near, scale))
        # The other end of the part that lies on the root's side of it, or the same place if it is the root.
        other = near + sign * self.sign_before * wide
        if sign_of_value(self.polynomial, (other, scale)) != -sign:
            return False
        self._set(min(near, other), max(near, other), scale)
        return True

    def compared(self, x):
        """-1, 0 or 1: the root is less than x, equal to it, or greater; x is a tuple (n, d) with d greater than 0."""
        n, d = x
        if self.low == self.high:
            return sign_of_whole(self.low * d - n * self.scale)
        if n * self.scale <= self.low * d:
            return 1
        if n * self.scale >= self.high * d:
            return -1
        return sign_of_value(self.polynomial, x) * self.sign_before

    def is_before(self, other):
        """True if the root is less than the other one, which is not equal to it."""
        while True:
            if self.high * other.scale <= other.low * self.scale:
                return True
            if other.high * self.scale <= self.low * other.scale:
                return False
            # Only the wider span, as each leap doubles what is known: more than is needed would soon be far too much.
            if (self.high - self.low) * other.scale > (other.high - other.low) * self.scale:
                self.sharpen()
            else:
                other.sharpen()

    def floor(self, grid):
        """The greatest whole number that is at most the grid times the root."""
        while True:
            least = grid * self.low // self.scale
            # The least whole number that is not less than the grid times high is 1 more than this.
            most = -(-grid * self.high // self.scale) - 1
            if self.low == self.high or least == most:
                return least
            if least + 1 == most:
                return least if self.compared((most, grid)) < 0 else most
            self.sharpen()

    def rational(self):
        """The number that the root is, or None if it is irrational."""
        # A rational root is a whole number divided by the leading coefficient.
        lead = abs(self.polynomial[-1])
        top = self.floor(lead)
        return number(top, lead) if self.compared((top, lead)) == 0 else None

    def is_common(self, divisor):
        """True if this divisor of the polynomial has the root, too."""
        before = sign_of_value(divisor, (self.low, self.scale))
        behind = sign_of_value(divisor, (self.high, self.scale))
        return before == 0 or before != behind

    def sign_of(self, a):
        """The sign of the value of the polynomial a at the root."""
        sign = sign_everywhere(a, self.span())
        if sign == 0 and self.is_common(common_divisor(self.polynomial, a)):
            return 0
        while sign == 0:
            self.sharpen()
            sign = sign_everywhere(a, self.span())
        return sign

"""The real roots of square-free polynomials: their number, their places, and signs at them."""

from wheretrue.isolating import isolated, sign_changes
from wheretrue.numbers import compare, minus, number
from wheretrue.polynomials import content, derivative, false_rest, scale, scaled_value, square_free
from wheretrue.realroots import real_roots, sign_of_value


def sign_at(a, x):
    """The sign of the value of the polynomial a at the number x."""
    return sign_of_value(a, x)


def chain_of(p):
    """The chain of p: p, its derivative, and further rests, each with the sign that lets its variations count roots."""
    chain = [_without_content(p), _without_content(derivative(p))]
    rest = _next_of_chain(chain[0], chain[1])
    while rest != []:
        chain.append(rest)
        rest = _next_of_chain(chain[-2], chain[-1])
    return chain


def _next_of_chain(a, b):
    """The polynomial of the chain behind a and b, or 0 behind its last one."""
    # Otherwise the false rest is that of a times a number less than 0.
    turned = b[-1] > 0 or (len(a) - len(b)) % 2 == 1
    return scale(_without_content(false_rest(a, b)), -1 if turned else 1)


def _without_content(a):
    """The polynomial divided by its content, which is greater than 0 if there is a coefficient; its signs stay."""
    divisor = content(a)
    return [c // divisor for c in a]


def variations(chain, x):
    """How often the sign changes in the values of the chain at the number x."""
    return sign_changes([scaled_value(a, x) for a in chain])


def variations_far(chain, *, right):
    """The variations of the chain at all numbers that are great enough, or small enough if not right."""
    if right:
        return sign_changes([a[-1] for a in chain])
    return sign_changes([a[-1] if len(a) % 2 == 1 else -a[-1] for a in chain])


def count_between(p, x, y):
    """The number of the roots of p that are greater than x and at most y."""
    return len([root for root in real_roots(p) if root.compared(x) > 0 and root.compared(y) <= 0])


def count_roots(p):
    """The number of the real roots of p."""
    return len(isolated(p))


def bound_of(p):
    """A whole number such that all real roots of p lie between it, with the other sign, and it."""
    greatest = max([abs(c) for c in p[:-1]])
    return 1 - (-greatest // abs(p[-1]))


def intervals_of(p, *, width):
    """Intervals of p of at most this width, one for each real root, ascending."""
    intervals = []
    for root in real_roots(p):
        while _is_wider(root, width):
            root.sharpen()
        intervals.append((number(root.low, root.scale), number(root.high, root.scale)))
    return intervals


def _is_wider(root, width):
    n, d = width
    return (root.high - root.low) * d > n * root.scale


def are_intervals(p, intervals, *, width):
    """True if the list is one of intervals of p of at most this width."""
    roots = real_roots(p)
    if len(intervals) != len(roots):
        return False
    for root, interval in zip(roots, intervals):
        if not _is_interval(p, root, interval) or compare(minus(interval[1], interval[0]), width) > 0:
            return False
    return all([compare(intervals[k][1], intervals[k + 1][0]) <= 0 for k in range(len(intervals) - 1)])


def _is_interval(p, root, interval):
    """True if the interval is the root, or the root lies in it and its ends are no roots of p."""
    low, high = interval
    if low == high:
        return root.compared(low) == 0
    if sign_at(p, low) == 0 or sign_at(p, high) == 0:
        return False
    return root.compared(low) > 0 > root.compared(high)


def floor_of(p, place, *, grid):
    """The greatest whole number that is at most the grid times the root with this place."""
    return real_roots(p)[place].floor(grid)


def compare_root(p, place, x):
    """-1, 0 or 1: the root with this place is less than the number x, equal to it, or greater."""
    return real_roots(p)[place].compared(x)


def sign_at_root(p, place, a):
    """The sign of the value of the polynomial a at the root of p with this place."""
    return real_roots(p)[place].sign_of(a)


def rational_roots(a):
    """The rational roots of the polynomial a, which is not 0, ascending, each once."""
    found = [root.rational() for root in real_roots(square_free(a))]
    return [x for x in found if x is not None]

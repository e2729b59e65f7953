"""Real roots as numbers: pairs of a polynomial and an interval in which it has only this root."""

from rootfast.errors import BadNumber
from rootfast.halving import open_roots, over_unit, unit_variations
from rootfast.intervals import has, is_interval, meeting_of, middle_of, multiple_of, sum_of
from rootfast.numbers import compare, over, power, times
from rootfast.polynomials import constant, degree, is_polynomial, moved, subtracted, variable
from rootfast.real import isolated, refined
from rootfast.single import simple_part
from rootfast.whole import greatest_divisor, sign_at_number, wholes_of

_ZERO = (0, 1)
_ONE = (1, 1)


def is_root(value):
    """True if any value is a root."""
    if type(value) != tuple or len(value) != 2:
        return False
    p, interval = value
    if not is_polynomial(1, p) or not is_interval(interval):
        return False
    if degree(p) < 1 or p[-1][1] != _ONE or simple_part(p) != p:
        return False
    return has_one_root(p, interval)


def has_one_root(p, interval):
    """True if p, without multiple roots, has exactly one root in an interval, and none as an end of a wide one."""
    f = wholes_of(p)
    low, high = interval
    if low == high:
        return sign_at_number(f, low) == 0
    if sign_at_number(f, low) == 0 or sign_at_number(f, high) == 0:
        return False
    return len(open_roots(f, low, high)) == 1


def root_of(x):
    """The root that stands for the number x."""
    return subtracted(variable(1, 0), constant(1, x)), (x, x)


def roots_of(p):
    """The ascending list of the roots for the different real roots of p."""
    simple = simple_part(p)
    return [(simple, interval) for interval, _ in isolated(p)]


def compare_roots(r, s):
    """-1, 0 or 1, as r is less than, equal to or greater than s."""
    if _are_equal(r, s):
        return 0
    bits = 4
    first = r[1]
    second = s[1]
    while True:
        # Intervals of roots that are not equal may still have an end in common.
        if compare(first[1], second[0]) <= 0:
            return -1
        if compare(second[1], first[0]) <= 0:
            return 1
        first = near((r[0], first), bits)
        second = near((s[0], second), bits)
        bits = 2 * bits


def _are_equal(r, s):
    p, first = r
    q, second = s
    if first[0] == first[1]:
        return compare_root(s, first[0]) == 0
    if second[0] == second[1]:
        return compare_root(r, second[0]) == 0
    both = meeting_of(first, second)
    return both is not None and _has_common_root(wholes_of(p), wholes_of(q), both)


def _has_common_root(f, g, interval):
    """True if f and g have a common root in an interval whose ends are none, and that has at most one root of f.

    f has no multiple root, so what f and g have in common changes its sign at each of its roots.
    """
    shared = greatest_divisor(f, g)
    return sign_at_number(shared, interval[0]) != sign_at_number(shared, interval[1])


def compare_root(r, x):
    """-1, 0 or 1, as r is less than, equal to or greater than the number x."""
    p, (low, high) = r
    if low == high:
        return compare(low, x)
    # No end of a wider interval is the root.
    if compare(x, low) <= 0:
        return 1
    if compare(high, x) <= 0:
        return -1
    f = wholes_of(p)
    here = sign_at_number(f, x)
    if here == 0:
        return 0
    return 1 if here == sign_at_number(f, low) else -1


def sign_at(q, r):
    """The sign of the value of a polynomial q at r."""
    p, (low, high) = r
    f = wholes_of(q)
    if not f or low == high:
        return sign_at_number(f, low)
    if _has_common_root(wholes_of(p), f, (low, high)):
        return 0
    bits = 4
    # q is not 0 at r: without roots of q beside r, its sign is the same all over the interval.
    while low != high and unit_variations(over_unit(f, low, high)) > 0:
        low, high = refined(p, (low, high), bits)
        bits = 2 * bits
    return sign_at_number(f, middle_of((low, high)))


def floor_of(r):
    """The greatest integer that is at most r."""
    a, b = near(r, 0)[0]
    below = a // b
    # r is less than below + 2, because the interval is at most 1 wide.
    return below + 1 if compare_root(r, (below + 1, 1)) >= 0 else below


def near(r, bits):
    """An interval that has r, with a width of at most 1 / 2 ** bits."""
    p, interval = r
    return interval if interval[0] == interval[1] else refined(p, interval, bits)


def negative_root(r):
    """A root that stands for -r."""
    return scaled_root(r, (-1, 1))


def shifted_root(r, x):
    """A root that stands for r + x."""
    p, interval = r
    return moved(1, p, ((-x[0], x[1]),)), sum_of(interval, (x, x))


def scaled_root(r, x):
    """A root that stands for r times a number x other than 0."""
    p, interval = r
    top = degree(p)
    # Multiplied by x to the power of the degree, the leading coefficient stays 1.
    terms = [(e, times(coefficient, power(x, top - e[0]))) for e, coefficient in p]
    return tuple(terms), multiple_of(x, interval)


def inverse_root(r):
    """A root that stands for 1 / r."""
    if compare_root(r, _ZERO) == 0:
        raise BadNumber("0 has no inverse")
    p, interval = r
    bits = 4
    while has(interval, _ZERO):
        interval = refined(p, interval, bits)
        bits = 2 * bits
    top = degree(p)
    # The last coefficient leads; where it is that of a power, the root 0 of p has no inverse and goes.
    lead = p[0][1]
    terms = [((top - e[0],), over(coefficient, lead)) for e, coefficient in reversed(p)]
    return tuple(terms), (over(_ONE, interval[1]), over(_ONE, interval[0]))

"""Bernstein coefficients of polynomials in one variable, and de Casteljau's way of halving them."""

from math import comb, lcm

from rootfast.halving import stretched
from rootfast.numbers import number
from rootfast.whole import whole_form


def bernstein(p, low, high):
    """The tuple of the Bernstein coefficients of p from low to high."""
    f, below = whole_form(stretched(p, low, high))
    top = len(f) - 1
    choices = [comb(top, k) for k in range(top + 1)]
    common = 1
    for many in choices:
        common = lcm(common, many)
    weights = [c * (common // many) for c, many in zip(f, choices)]
    found = []
    for i in range(top + 1):
        total = sum([comb(i, k) * weights[k] for k in range(i + 1)])
        found.append(number(total, below * common))
    return tuple(found)


def halved(coefficients):
    """The pair of the tuples of Bernstein coefficients for the lower and for the upper half."""
    below = 1
    for _, b in coefficients:
        below = lcm(below, b)
    row = [a * (below // b) for a, b in coefficients]
    lower = []
    upper = []
    while row:
        lower.append(number(row[0], below))
        upper.append(number(row[-1], below))
        # The sums are not halved: the number below the line grows instead.
        row = [a + b for a, b in zip(row, row[1:])]
        below = 2 * below
    return tuple(lower), tuple(upper[::-1])

"""Bounds of the values of polynomials over boxes.

All is worked out in integers: each variable is multiplied by a number that turns the ends and the middle of
its interval into integers, and the polynomial by one that then turns its coefficients into integers.
"""

from math import lcm

from rootfast.numbers import number, whole_power
from rootfast.polynomials import degree_in, derivative


def natural(p, box):
    """The sum of the intervals of the terms of p over a box."""
    ends, terms, below = _whole_problem(p, box)
    return _interval_of(_natural_ends(terms, ends), below)


def centered(p, box):
    """The interval around the value of p at the middle of a box that the other terms there allow."""
    ends, terms, below = _whole_problem(p, box)
    return _interval_of(_centered_ends(terms, ends), below)


def bounds(p, box):
    """The meeting of both: all values of p at points of the box lie in it."""
    ends, terms, below = _whole_problem(p, box)
    first = _natural_ends(terms, ends)
    second = _centered_ends(terms, ends)
    return _interval_of((max(first[0], second[0]), min(first[1], second[1])), below)


def slopes(system, box):
    """The tuple of the rows of the bounds of the partial derivatives over a box."""
    return tuple([_slopes_of(p, box) for p in system])


def _slopes_of(p, box):
    return tuple([bounds(derivative(p, k), box) for k in range(len(box))])


def _interval_of(ends, below):
    return (number(ends[0], below), number(ends[1], below))


def _whole_problem(p, box):
    """The triple of the ends of a box and the terms of p in integers, and what the values were multiplied by."""
    ends = []
    rows = []
    for k, (low, high) in enumerate(box):
        # Twice, so that the middle is an integer, too.
        factor = 2 * lcm(low[1], high[1])
        ends.append((low[0] * (factor // low[1]), high[0] * (factor // high[1])))
        rows.append(_powers(factor, max(degree_in(p, k), 0)))
    below = 1
    for _, coefficient in p:
        below = lcm(below, coefficient[1])
    terms = []
    for exponents, (a, b) in p:
        whole = a * (below // b)
        for row, e in zip(rows, exponents):
            whole = whole * row[-1 - e]
        terms.append((exponents, whole))
    for row in rows:
        below = below * row[-1]
    return ends, terms, below


def _powers(x, top):
    """The list of the powers of an integer, from 0 to the top."""
    found = [1]
    for _ in range(top):
        found.append(found[-1] * x)
    return found


def _natural_ends(terms, ends):
    low = 0
    high = 0
    for exponents, whole in terms:
        first = second = whole
        for e, i in zip(exponents, ends):
            if e > 0:
                first, second = _product_ends((first, second), _power_ends(i, e))
        low += first
        high += second
    return low, high


def _product_ends(i, j):
    found = [i[0] * j[0], i[0] * j[1], i[1] * j[0], i[1] * j[1]]
    return min(found), max(found)


def _power_ends(i, e):
    low = whole_power(i[0], e)
    high = whole_power(i[1], e)
    if e & 1 or i[0] >= 0:
        return low, high
    if i[1] <= 0:
        return high, low
    return 0, max(low, high)


def _centered_ends(terms, ends):
    table = {exponents: whole for exponents, whole in terms}
    rows = []
    for k, (low, high) in enumerate(ends):
        table = _moved_table(table, k, (low + high) // 2)
        top = max([exponents[k] for exponents in table], default=0)
        rows.append(_powers((high - low) // 2, top))
    middle = 0
    size = 0
    for exponents in table:
        if any(exponents):
            size += _size_of_term(abs(table[exponents]), exponents, rows)
        else:
            middle = table[exponents]
    return middle - size, middle + size


def _size_of_term(size, exponents, rows):
    for e, row in zip(exponents, rows):
        if e > 0:
            size = size * row[e]
    return size


def _moved_table(table, k, x):
    """The table of coefficients of a polynomial in which the variable k has x added to it."""
    rows = {}
    for exponents in table:
        others = (exponents[:k], exponents[k + 1:])
        rows.setdefault(others, []).append((exponents[k], table[exponents]))
    found = {}
    for before, behind in rows:
        for e, whole in enumerate(_moved_row(rows[before, behind], x)):
            if whole != 0:
                found[before + (e,) + behind] = whole
    return found


def _moved_row(terms, x):
    """The list of the coefficients of a polynomial in one variable that has x added to it."""
    row = [0] * (max([e for e, whole in terms]) + 1)
    for e, whole in terms:
        row[e] = whole
    if x != 0:
        for start in range(len(row) - 1):
            for e in reversed(range(start, len(row) - 1)):
                row[e] += x * row[e + 1]
    return row

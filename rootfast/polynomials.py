"""Polynomials in n variables: tuples of pairs (exponents, coefficient) with ascending exponents."""

from math import lcm

from rootfast.numbers import is_number, loose_plus, number, power, times, whole_power

_ONE = (1, 1)


def is_polynomial(n, value):
    """True if any value is a polynomial in n variables."""
    if type(value) != tuple:
        return False
    last = None
    for term in value:
        if not _is_term(n, term):
            return False
        if last is not None and last >= term[0]:
            return False
        last = term[0]
    return True


def _is_term(n, value):
    if type(value) != tuple or len(value) != 2:
        return False
    exponents, coefficient = value
    if type(exponents) != tuple or len(exponents) != n:
        return False
    for exponent in exponents:
        if type(exponent) != int or exponent < 0:
            return False
    return is_number(coefficient) and coefficient[0] != 0


def polynomial(n, pairs):
    """The polynomial in n variables that is the sum of the terms of a list of pairs."""
    return _collected(pairs)


def _collected(pairs):
    table = {}
    for exponents, coefficient in pairs:
        _add_term(table, exponents, coefficient)
    return _from_table(table)


def _add_term(table, exponents, coefficient):
    if exponents in table:
        coefficient = loose_plus(table[exponents], coefficient)
    table[exponents] = coefficient


def _from_table(table):
    """The polynomial with the coefficients of a table, pairs (a, b) that may have common divisors."""
    terms = []
    for exponents in sorted(table):
        a, b = table[exponents]
        if a != 0:
            terms.append((exponents, number(a, b)))
    return tuple(terms)


def constant(n, x):
    """The polynomial in n variables that is the number x."""
    return (((0,) * n, x),) if x[0] != 0 else ()


def variable(n, k):
    """The polynomial in n variables that is the variable with the index k."""
    return ((_with_exponent((0,) * n, k, 1), _ONE),)


def _with_exponent(exponents, k, e):
    return exponents[:k] + (e,) + exponents[k + 1:]


def added(p, q):
    """The sum of two polynomials."""
    return _collected(p + q)


def subtracted(p, q):
    """The difference of two polynomials."""
    return _collected(p + scaled(q, (-1, 1)))


def multiplied(p, q):
    """The product of two polynomials."""
    table = {}
    for first, (a, b) in p:
        for second, (c, d) in q:
            exponents = tuple([i + j for i, j in zip(first, second)])
            _add_term(table, exponents, (a * c, b * d))
    return _from_table(table)


def scaled(p, x):
    """p times the number x."""
    if x[0] == 0:
        return ()
    return tuple([(exponents, times(coefficient, x)) for exponents, coefficient in p])


def raised(n, p, k):
    """p to the power of an integer k that is at least 0."""
    result = constant(n, _ONE)
    for bit in reversed(range(k.bit_length())):
        result = multiplied(result, result)
        if k >> bit & 1:
            result = multiplied(result, p)
    return result


def derivative(p, k):
    """The partial derivative of p by the variable k."""
    # All terms that stay lose the same exponent, so their order stays.
    terms = []
    for exponents, coefficient in p:
        e = exponents[k]
        if e > 0:
            terms.append((_with_exponent(exponents, k, e - 1), times(coefficient, (e, 1))))
    return tuple(terms)


def value_at(p, point):
    """The value of p at a point."""
    total = (0, 1)
    for exponents, coefficient in p:
        total = loose_plus(total, _term_value(exponents, coefficient, point))
    return number(total[0], total[1])


def _term_value(exponents, coefficient, point):
    above, below = coefficient
    for e, (a, b) in zip(exponents, point):
        if e > 0:
            above = above * whole_power(a, e)
            below = below * whole_power(b, e)
    return (above, below)


def moved(n, p, point):
    """The polynomial whose value at x is that of p at x + point."""
    for k in range(n):
        if point[k][0] != 0:
            p = _moved_along(p, k, point[k])
    return p


def _moved_along(p, k, x):
    """p with the variable k plus the number x in place of this variable."""
    rows = {}
    for exponents, coefficient in p:
        others = _with_exponent(exponents, k, 0)
        rows.setdefault(others, []).append((exponents[k], coefficient))
    table = {}
    for others in rows:
        for e, above, below in _moved_row(rows[others], x):
            table[_with_exponent(others, k, e)] = (above, below)
    return _from_table(table)


def _moved_row(row, x):
    """The triples (e, a, b) of the terms of a polynomial in one variable, moved by x."""
    a, b = x
    top = row[-1][0]
    below = 1
    for _, coefficient in row:
        below = lcm(below, coefficient[1])
    powers = [whole_power(b, e) for e in range(top + 1)]
    # With the variable divided by b all coefficients are integers, and x is the integer a.
    wholes = [0] * (top + 1)
    for e, coefficient in row:
        wholes[e] = coefficient[0] * (below // coefficient[1]) * powers[top - e]
    for start in range(top):
        for e in reversed(range(start, top)):
            wholes[e] += a * wholes[e + 1]
    return [(e, wholes[e], below * powers[top - e]) for e in range(top + 1)]


def fixed(n, p, k, x):
    """The polynomial in n - 1 variables in which the variable k has the value x."""
    pairs = []
    for exponents, coefficient in p:
        worth = times(coefficient, power(x, exponents[k]))
        pairs.append((exponents[:k] + exponents[k + 1:], worth))
    return _collected(pairs)


def degree(p):
    """The greatest sum of exponents of a term, -1 if there is none."""
    return max([sum(exponents) for exponents, coefficient in p], default=-1)


def degree_in(p, k):
    """The greatest exponent of the variable k, -1 if there is no term."""
    return max([exponents[k] for exponents, coefficient in p], default=-1)

"""Elimination: resultants, papers for them, and the counted zeros of two polynomials in the plane."""

from rootfast.errors import Endless, NotUpright
from rootfast.minors import polynomial_determinant
from rootfast.polynomials import added, degree, degree_in, fixed, is_polynomial, multiplied, raised, scaled, variable
from rootfast.single import common_divisor, parts

_ZERO = (0, 1)


def resultant(n, p, q, k):
    """The resultant of p and q by the variable k, a polynomial in the other variables."""
    if not p or not q:
        return ()
    rows = [row for _, _, row in _sylvester(p, q, k)]
    return fixed(n, _signed_determinant(n, p, q, k, rows), k, _ZERO)


def _sylvester(p, q, k):
    """The list of the rows of Sylvester's matrix, each in a triple with its polynomial's index and its power.

    A row stands for p or q, with the index 0 or 1, times the variable k to the power. The rows of both
    alternate: so each stands where the other rows near to it have their entries, too.
    """
    first = _coefficients(p, k)
    second = _coefficients(q, k)
    d = len(first) - 1
    e = len(second) - 1
    found = []
    for i in range(max(d, e)):
        if i < e:
            found.append((0, e - 1 - i, _shifted(first, i, d + e)))
        if i < d:
            found.append((1, d - 1 - i, _shifted(second, i, d + e)))
    return found


def _coefficients(p, k):
    """The list of the coefficients of p as a polynomial in the variable k, the leading one first."""
    rows = [[] for _ in range(degree_in(p, k) + 1)]
    for exponents, coefficient in p:
        others = exponents[:k] + (0,) + exponents[k + 1:]
        rows[-1 - exponents[k]].append((others, coefficient))
    return [tuple(row) for row in rows]


def _shifted(coefficients, i, size):
    return [()] * i + coefficients + [()] * (size - i - len(coefficients))


def _signed_determinant(n, p, q, k, rows):
    """The determinant of rows in the order of `_sylvester`, as if those of p stood before those of q."""
    d = degree_in(p, k)
    exchanges = sum([min(j, d) for j in range(degree_in(q, k))])
    return scaled(polynomial_determinant(n, rows), (-1 if exchanges & 1 else 1, 1))


def check_elimination(n, p, q, k, value):
    """True if any value is an elimination paper for p, q and the variable k."""
    if type(value) != tuple or len(value) != 2:
        return False
    a, b = value
    if not is_polynomial(n, a) or not is_polynomial(n, b):
        return False
    return degree_in(added(multiplied(a, p), multiplied(b, q)), k) == 0


def elimination_paper(n, p, q, k):
    """The pair of polynomials a and b for which a * p + b * q is the resultant, or None."""
    if degree_in(p, k) < 1 or degree_in(q, k) < 1:
        return None
    # A column of the matrix may have the rows' polynomials times powers of the variable in place of its
    # own entries: the determinant stays. It is the sum of one multiple of p and one of q.
    a = _paper_part(n, p, q, k, 0)
    b = _paper_part(n, p, q, k, 1)
    return (a, b) if added(multiplied(a, p), multiplied(b, q)) else None


def _paper_part(n, p, q, k, index):
    """What p, or q, is multiplied by, as the index tells, to get its part of the resultant."""
    rows = []
    for which, power, row in _sylvester(p, q, k):
        last = raised(n, variable(n, k), power) if which == index else ()
        rows.append(row[:-1] + [last])
    return _signed_determinant(n, p, q, k, rows)


def is_upright(p):
    """True if a polynomial in two variables is upright."""
    d = degree_in(p, 1)
    return d > 0 and [exponents[0] for exponents, _ in p if exponents[1] == d] == [0]


def column_counts(p, q):
    """The parts of the resultant by the second variable: the counted zeros by their first coordinates."""
    return parts(_plane_resultant(p, q))


def zero_count(p, q):
    """The number of all complex zeros of p and q, counted with multiplicities."""
    return degree(_plane_resultant(p, q))


def _plane_resultant(p, q):
    _refuse_if_not_upright(p, q)
    found = resultant(2, p, q, 1)
    if not found:
        raise Endless("the resultant is 0")
    return found


def _refuse_if_not_upright(p, q):
    if not is_upright(p) or not is_upright(q):
        raise NotUpright("a polynomial is not upright")


def zeros_above(p, q, x):
    """The polynomial in one variable whose roots are the second coordinates of the zeros with the first one x."""
    _refuse_if_not_upright(p, q)
    return common_divisor(fixed(2, p, 0, x), fixed(2, q, 0, x))

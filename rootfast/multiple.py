"""Zeros that are not regular: their multiplicities, and systems that have them with lesser ones."""

from itertools import combinations

from rootfast.errors import NoZero
from rootfast.matrices import null_vectors, rank, whole_row
from rootfast.minors import polynomial_determinant
from rootfast.polynomials import derivative, moved
from rootfast.systems import jacobian, values_at
from rootfast.whole import primitive


def dual_size(n, system, point, d):
    """The number of the monomials of degrees up to d, less the rank of Macaulay's matrix for d."""
    return _dual_sizes(n, system, point, d)[-1]


def multiplicity(n, system, point, most):
    """The multiplicity of a point as a zero of a system, or None if no degree up to most tells it."""
    sizes = _dual_sizes(n, system, point, most + 1)
    return sizes[-1] if sizes[-1] == sizes[-2] else None


def _dual_sizes(n, system, point, d):
    """The list of the sizes from degree 0 to d, or to the first one that is the same as that before it.

    What does not grow once never grows again.
    """
    if not _is_zero(system, point):
        return [0, 0]
    tables = _moved_tables(n, system, point, d)
    space = _first_space(n)
    sizes = [len(space)]
    while len(sizes) <= d and (len(sizes) == 1 or sizes[-1] != sizes[-2]):
        space = _wider_space(n, tables, space, len(sizes))
        sizes.append(len(space))
    return sizes


def _is_zero(system, point):
    """True if the point is a zero of the system."""
    return all([value[0] == 0 for value in values_at(system, point)])


def _moved_tables(n, system, point, d):
    """The list of the tables of the coefficients, as integers, of the polynomials moved by a point, up to degree d."""
    tables = []
    for p in system:
        terms = [term for term in moved(n, p, point) if sum(term[0]) <= d]
        _, wholes = whole_row([coefficient for _, coefficient in terms])
        tables.append({exponents: c for (exponents, _), c in zip(terms, wholes)})
    return tables


# Macaulay's matrices are not made: the vectors that their rows turn into 0, as many as dual_size tells, are
# found from degree to degree. Such a vector has an entry for each monomial, and is kept as a table of those
# that are not 0. It is one for degree d exactly if the polynomials turn it into 0 and if for each variable the
# entries at the multiples of this variable, moved down by it, are a vector for degree d - 1.


def _first_space(n):
    """The list of the vectors for degree 0, at a zero."""
    return [{(0,) * n: 1}]


def _wider_space(n, tables, space, d):
    """The list of vectors that span those for degree d, from such a list for d - 1."""
    # For each variable the vector moved down is sought as a sum of multiples of those known.
    columns, rows = _unknown_entries(n, space, d)
    for table in tables:
        total = [0] * (n * len(space))
        for exponents, row in columns:
            if exponents in table:
                total = [a + table[exponents] * b for a, b in zip(total, row)]
        rows.append(total)
    found = _first_space(n)
    for weights in null_vectors(rows, n * len(space)):
        found.append(_vector_with(columns, weights))
    return found


def _unknown_entries(n, space, d):
    """How the entries of a vector come from the multiples that make it up, and what these must fulfil.

    The first is a list of pairs of exponents and a row, the second one a list of rows: a monomial that is a
    multiple of several variables has the same entry by each of them.
    """
    columns = []
    rows = []
    for exponents in _monomials(n, d):
        ways = [_entry_row(n, space, exponents, k) for k in range(n) if exponents[k] > 0]
        for way in ways[:1]:
            columns.append((exponents, way))
        for way in ways[1:]:
            rows.append([a - b for a, b in zip(ways[0], way)])
    return columns, rows


def _monomials(n, d):
    """The list of the exponents of the monomials in n variables of degrees up to d."""
    found = [()]
    for _ in range(n):
        found = [exponents + (e,) for exponents in found for e in range(d + 1 - sum(exponents))]
    return found


def _entry_row(n, space, exponents, k):
    """The row that tells the entry at a multiple of the variable k."""
    lower = exponents[:k] + (exponents[k] - 1,) + exponents[k + 1:]
    row = [0] * (n * len(space))
    for at, vector in enumerate(space):
        row[k * len(space) + at] = vector.get(lower, 0)
    return row


def _vector_with(columns, weights):
    entries = primitive([sum([a * b for a, b in zip(row, weights)]) for _, row in columns])
    return {exponents: c for (exponents, _), c in zip(columns, entries) if c != 0}


def deflated(n, system, point):
    """The system with determinants of partial derivatives behind it, or itself if the zero needs none."""
    r = _rank_at_zero(n, system, point)
    if r == n:
        return system
    slopes = [[derivative(p, k) for k in range(n)] for p in system]
    found = {p: True for p in system}
    more = []
    for p in _minors_of(n, slopes, r + 1):
        if p and p not in found:
            found[p] = True
            more.append(p)
    return system + tuple(more)


def _rank_at_zero(n, system, point):
    if not _is_zero(system, point):
        raise NoZero("the point is no zero of the system")
    return rank(jacobian(n, system, point))


def _minors_of(n, rows, size):
    """The list of the determinants of all choices of so many rows and columns, ordered by these."""
    found = []
    for chosen in combinations(range(len(rows)), size):
        for columns in combinations(range(n), size):
            part = [[rows[i][k] for k in columns] for i in chosen]
            found.append(polynomial_determinant(n, part))
    return found


def deflation(n, system, point, most):
    """The list of systems, each deflated from the one before, up to one for which the zero is plain, or None."""
    found = [system]
    while _rank_at_zero(n, found[-1], point) < n:
        if len(found) > most:
            return None
        found.append(deflated(n, found[-1], point))
    return found


def regular_part(n, system, point):
    """The square system of the polynomials of a system that raise the rank at a zero where it is n."""
    if _rank_at_zero(n, system, point) < n:
        raise NoZero("the rank at the point is less than the number of the variables")
    found = []
    rows = []
    for p, row in zip(system, jacobian(n, system, point)):
        if len(rows) < n and rank(tuple(rows + [row])) > len(rows):
            found.append(p)
            rows.append(row)
    return tuple(found)

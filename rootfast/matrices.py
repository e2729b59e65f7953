"""Matrices: tuples of at least one row, tuples of the same number of numbers."""

from math import gcd, lcm

from rootfast.numbers import is_number, number, plus, times

_ZERO = (0, 1)


def is_matrix(rows, columns, value):
    """True if any value is a matrix with so many rows and columns."""
    if rows < 1 or columns < 1:
        return False
    if type(value) != tuple or len(value) != rows:
        return False
    for row in value:
        if not _is_row(columns, row):
            return False
    return True


def _is_row(columns, value):
    if type(value) != tuple or len(value) != columns:
        return False
    for x in value:
        if not is_number(x):
            return False
    return True


def determinant(matrix):
    """The determinant of a matrix with as many rows as columns."""
    rows, below = _whole_rows(matrix)
    count, last = _eliminated(rows, len(rows), False)
    return number(last, below) if count == len(rows) else _ZERO


def rank(matrix):
    """The rank of a matrix."""
    columns = len(matrix[0])
    return columns - len(null_vectors(_whole_rows(matrix)[0], columns))


def null_vectors(rows, columns):
    """The list of vectors of integers that span all that a list of rows of integers turns into 0."""
    # The vectors span all that is turned into 0 by the rows looked at so far: where many rows depend
    # on others, looking at a row so costs little.
    vectors = [[1 if i == k else 0 for i in range(columns)] for k in range(columns)]
    for row in rows:
        vectors = _turned_to_zero(vectors, row)
    return vectors


def _turned_to_zero(vectors, row):
    """A list of vectors that span what the row turns into 0, of all that some vectors span."""
    entries = [(i, a) for i, a in enumerate(row) if a != 0]
    sums = [sum([a * vector[i] for i, a in entries]) for vector in vectors]
    at = 0
    while at < len(sums) and sums[at] == 0:
        at += 1
    found = vectors[:at]
    for k in range(at + 1, len(vectors)):
        found.append(_combined(vectors[k], sums[at], vectors[at], sums[k]))
    return found


def _combined(vector, a, other, b):
    """a times a vector less b times another one, divided by the common divisor of the items."""
    if b == 0:
        return vector
    wholes = [a * x - b * y for x, y in zip(vector, other)]
    common = 0
    for c in wholes:
        common = gcd(common, c)
    return [c // common for c in wholes]


def inverse(matrix):
    """The inverse of a matrix with as many rows as columns, or None."""
    size = len(matrix)
    rows = []
    for k, row in enumerate(matrix):
        below, wholes = whole_row(row)
        rows.append(wholes + [below if i == k else 0 for i in range(size)])
    count, _ = _eliminated(rows, size, True)
    if count < size:
        return None
    return tuple([_quotients(row[size:], row[k]) for k, row in enumerate(rows)])


def _quotients(wholes, below):
    return tuple([number(a, below) for a in wholes])


def whole_row(row):
    """The least common denominator of the numbers of a row, and the list of the integers that are the row times it."""
    below = 1
    for _, b in row:
        below = lcm(below, b)
    return below, [a * (below // b) for a, b in row]


def _whole_rows(matrix):
    """The list of the rows in integers, and the product of what they were multiplied by."""
    rows = []
    product_of_all = 1
    for row in matrix:
        below, wholes = whole_row(row)
        rows.append(wholes)
        product_of_all = product_of_all * below
    return rows, product_of_all


def _eliminated(rows, columns, upward):
    """Eliminate in a list of rows of integers, above the pivots too if told so.

    Bareiss's way: all divisions are exact, because each entry stays a determinant of entries of
    the first rows. Returns the number of pivots and the last one, with the sign of the exchanges.
    """
    sign = 1
    last = 1
    done = 0
    for column in range(columns):
        at = _pivot_row(rows, done, column)
        if at is None:
            continue
        if at != done:
            rows[at], rows[done] = rows[done], rows[at]
            sign = -sign
        for k in range(0 if upward else done + 1, len(rows)):
            if k != done:
                rows[k] = _row_without(rows[k], rows[done], column, last)
        last = rows[done][column]
        done += 1
    return done, sign * last


def _pivot_row(rows, done, column):
    for k in range(done, len(rows)):
        if rows[k][column] != 0:
            return k
    return None


def _row_without(row, pivot_row, column, last):
    pivot = pivot_row[column]
    here = row[column]
    return [(pivot * a - here * b) // last for a, b in zip(row, pivot_row)]


def applied(matrix, vector):
    """The tuple of the sums of the products of the entries of each row with those of a tuple of numbers."""
    return tuple([_row_sum(row, vector) for row in matrix])


def _row_sum(row, vector):
    total = _ZERO
    for x, y in zip(row, vector):
        total = plus(total, times(x, y))
    return total


def transposed(matrix):
    """The matrix whose rows are the columns of a matrix."""
    return tuple([tuple([row[k] for row in matrix]) for k in range(len(matrix[0]))])


def matrix_product(first, second):
    """The product of two matrices."""
    columns = transposed(second)
    return tuple([applied(columns, row) for row in first])

"""Determinants of matrices of polynomials.

All is worked out in tables of integers: from the exponents of a term, packed into one integer, to its
coefficient. So two terms are multiplied by a sum and a product.
"""

from math import lcm

from rootfast.numbers import number


def polynomial_determinant(n, rows):
    """The polynomial in n variables that is the determinant of a list of rows of as many polynomials."""
    bits = _bits_for(rows)
    below = 1
    # The minors of the rows so far, by their columns as bits. They cost no division, and in a matrix
    # that is 0 far from its diagonal they are few.
    minors = {0: {0: 1}}
    for row, columns in zip(rows, _last_columns(rows)):
        factor, tables = _whole_tables(row, bits)
        below = below * factor
        minors = _with_row(minors, tables, columns)
    return _polynomial_of(n, minors.get((1 << len(rows)) - 1, {}), bits, below)


def _bits_for(rows):
    """How many bits an exponent of the determinant may have."""
    top = max([e for row in rows for p in row for exponents, _ in p for e in exponents], default=0)
    return (top * len(rows)).bit_length() + 1


def _last_columns(rows):
    """The list, for each row, of the columns, as bits, in which all later rows are 0."""
    left = (1 << len(rows)) - 1
    found = []
    for row in reversed(rows):
        found.append(left)
        for k, p in enumerate(row):
            if p and (left >> k) & 1:
                left ^= 1 << k
    return found[::-1]


def _whole_tables(row, bits):
    """The common denominator of the polynomials of a row, and the list of their tables times it."""
    below = 1
    for p in row:
        for _, coefficient in p:
            below = lcm(below, coefficient[1])
    return below, [{_packed(e, bits): a * (below // b) for e, (a, b) in p} for p in row]


def _packed(exponents, bits):
    key = 0
    for e in exponents:
        key = (key << bits) + e
    return key


def _with_row(minors, tables, columns):
    """The minors of one more row, of which only those with the told columns are of use."""
    found = {}
    for used in minors:
        for k, table in enumerate(tables):
            after = used | (1 << k)
            if table and after != used and (after & columns) == columns:
                sign = -1 if _is_odd(used >> k, len(tables)) else 1
                _add_product(found.setdefault(after, {}), minors[used], table, sign)
    return found


def _is_odd(bits, size):
    """True if an odd number of the bits are 1."""
    return (sum([(bits >> k) & 1 for k in range(size)]) & 1) == 1


def _add_product(total, first, second, sign):
    for key, c in second.items():
        factor = sign * c
        for other, b in first.items():
            place = key + other
            total[place] = total.get(place, 0) + factor * b


def _polynomial_of(n, table, bits, below):
    terms = []
    # The first exponent stands in the highest bits, so the exponents ascend with the packed ones.
    for key in sorted(table):
        if table[key] != 0:
            terms.append((_unpacked(n, key, bits), number(table[key], below)))
    return tuple(terms)


def _unpacked(n, key, bits):
    mask = (1 << bits) - 1
    return tuple([(key >> (bits * k)) & mask for k in reversed(range(n))])

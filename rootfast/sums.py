"""Sums and products of real roots as numbers."""

from rootfast.elimination import resultant
from rootfast.intervals import product_of, sum_of
from rootfast.polynomials import added, degree, raised, scaled, subtracted, variable
from rootfast.roots import has_one_root, near
from rootfast.single import simple_part


def sum_of_roots(r, s):
    """A root that stands for the sum of two roots."""
    # p(y) and q(x - y) have a common root y where x is the sum of a root of p and one of q.
    left = subtracted(variable(2, 0), variable(2, 1))
    total = ()
    for exponents, coefficient in s[0]:
        total = added(total, scaled(raised(2, left, exponents[0]), coefficient))
    return _narrowed_root(_eliminated(r[0], total), r, s, sum_of)


def product_of_roots(r, s):
    """A root that stands for the product of two roots."""
    # p(y) and q(x / y) times a power of y have a common root y where x is such a product.
    q = s[0]
    top = degree(q)
    total = tuple([((e[0], top - e[0]), coefficient) for e, coefficient in q])
    return _narrowed_root(_eliminated(r[0], total), r, s, product_of)


def _eliminated(p, q):
    """The polynomial whose roots are the x at which p, in the second variable, and q have a common root."""
    upright = tuple([((0, e[0]), coefficient) for e, coefficient in p])
    return simple_part(resultant(2, upright, q, 1))


def _narrowed_root(p, r, s, combined):
    """The root of p that two roots make: their intervals are combined, and made narrower as needed."""
    first = r[1]
    second = s[1]
    bits = 4
    while not has_one_root(p, combined(first, second)):
        first = near((r[0], first), bits)
        second = near((s[0], second), bits)
        bits = 2 * bits
    return p, combined(first, second)

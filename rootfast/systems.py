"""Systems: tuples of at least one polynomial in n variables."""

from rootfast.polynomials import derivative, is_polynomial, value_at


def is_system(n, value):
    """True if any value is a system in n variables."""
    if type(value) != tuple or not value:
        return False
    for p in value:
        if not is_polynomial(n, p):
            return False
    return True


def values_at(system, point):
    """The tuple of the values of the polynomials of a system at a point."""
    return tuple([value_at(p, point) for p in system])


def jacobian(n, system, point):
    """The matrix with a row for each polynomial, of its partial derivatives at a point."""
    return tuple([_slopes_at(n, p, point) for p in system])


def _slopes_at(n, p, point):
    return tuple([value_at(derivative(p, k), point) for k in range(n)])

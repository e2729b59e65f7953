"""The whole plane: the zeros of two polynomials in two variables, with all of them counted."""

from rootfast.elimination import is_upright, resultant, zero_count, zeros_above
from rootfast.errors import Endless, NotUpright
from rootfast.multiple import multiplicity
from rootfast.numbers import number
from rootfast.real import root_bound
from rootfast.single import simple_whole
from rootfast.trees import different, rest, search, told
from rootfast.whole import rational_multiples


def rational_roots(p):
    """The ascending list of the numbers that are roots of a polynomial in one variable other than 0."""
    f = simple_whole(p)
    return [number(c, f[-1]) for c in rational_multiples(f)]


def exchanged(p):
    """The polynomial with both variables exchanged."""
    table = {(e, d): coefficient for (d, e), coefficient in p}
    return tuple([(exponents, table[exponents]) for exponents in sorted(table)])


def is_fair(p, q):
    """True if the pair is fair: both are upright both ways, and their resultant is not 0."""
    return _are_upright(p, q) and bool(resultant(2, p, q, 1))


def _are_upright(p, q):
    return all([is_upright(r) for r in (p, q, exchanged(p), exchanged(q))])


def _fair_resultant(p, q):
    """The resultant of a fair pair by the second variable."""
    if not _are_upright(p, q):
        raise NotUpright("one of the polynomials is not upright")
    found = resultant(2, p, q, 1)
    if not found:
        raise Endless("a resultant is 0")
    return found


def frame(p, q):
    """The box inside of which all real zeros of a fair pair lie."""
    return (_around_zero(root_bound(_fair_resultant(p, q))), _around_zero(root_bound(resultant(2, p, q, 0))))


def _around_zero(bound):
    return ((-bound, 1), (bound, 1))


def plane_zeros(p, q, depth):
    """The triple of the boxes of the zeros found in the frame, the boxes of the rest, and the number of all zeros."""
    box = frame(p, q)
    tree = search((p, q), box, depth)
    return different((p, q), told(box, tree)), rest(box, tree), zero_count(p, q)


def rational_zeros(p, q):
    """The ascending list of the zeros of a fair pair both of whose coordinates are numbers."""
    columns = rational_roots(_fair_resultant(p, q))
    return [(x, y) for x in columns for y in rational_roots(zeros_above(p, q, x))]


def counted_zeros(p, q):
    """The list of the pairs of these zeros and their multiplicities."""
    points = rational_zeros(p, q)
    # No multiplicity is greater than the number of all zeros, so none needs a greater degree.
    most = zero_count(p, q)
    return [(point, multiplicity(2, (p, q), point, most)) for point in points]

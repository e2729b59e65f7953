"""Critical points of polynomials, and their kinds."""

from rootfast.bounds import bounds
from rootfast.intervals import sign_of
from rootfast.minors import polynomial_determinant
from rootfast.polynomials import derivative
from rootfast.trees import search, told


def gradient(n, p):
    """The system of the partial derivatives of p: its zeros are the critical points."""
    return tuple([derivative(p, k) for k in range(n)])


def hessian(n, p):
    """The tuple of the rows of the second partial derivatives of p."""
    return tuple([gradient(n, slope) for slope in gradient(n, p)])


def shape_over(p, box):
    """The word for what a critical point of p in a box is: least, greatest, saddle or unclear."""
    return _shape_of(_leading_minors(len(box), p), box)


def _leading_minors(n, p):
    """The list of the determinants of the first k rows and columns of the second derivatives, for k from 1 to n."""
    rows = hessian(n, p)
    return [polynomial_determinant(n, [row[:k] for row in rows[:k]]) for k in range(1, n + 1)]


def _shape_of(minors, box):
    signs = [sign_of(bounds(p, box)) for p in minors]
    # Those of odd and of even numbers of rows.
    odd = signs[::2]
    even = signs[1::2]
    if odd.count(1) == len(odd) and even.count(1) == len(even):
        return "least"
    if odd.count(-1) == len(odd) and even.count(1) == len(even):
        return "greatest"
    if -1 in even or (1 in odd and -1 in odd):
        return "saddle"
    return "unclear"


def critical_boxes(n, p, box, depth):
    """The list of the pairs of the told boxes of a search for critical points, and their words."""
    tree = search(gradient(n, p), box, depth)
    minors = _leading_minors(n, p)
    return [(wide, _shape_of(minors, wide)) for wide, _ in told(box, tree)]

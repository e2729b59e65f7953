"""Paths: zeros of systems that move with a time, and the tubes of boxes around them."""

from rootfast.bounds import bounds
from rootfast.boxes import box_inside, box_middle, box_within, is_box
from rootfast.intervals import has
from rootfast.matrices import inverse, is_matrix
from rootfast.numbers import compare, is_number, minus, number, plus
from rootfast.papers import krawczyk, krawczyk_form, narrowed
from rootfast.polynomials import (
    added,
    constant,
    derivative,
    fixed,
    is_polynomial,
    multiplied,
    subtracted,
    variable,
)
from rootfast.systems import jacobian

_ZERO = (0, 1)
_ONE = (1, 1)
_MIDDLE_BITS = 20
_TIMES_TRIED = 13
_BOXES_TRIED = 15


def is_family(n, value):
    """True if any value is a family in n variables."""
    if type(value) != tuple or len(value) != n:
        return False
    return all([is_polynomial(n + 1, p) for p in value])


def at_time(n, family, t):
    """The system that comes about at the time t."""
    return tuple([fixed(n + 1, p, n, t) for p in family])


def straight(n, start, goal):
    """The family that leads straight from one system at time 0 to another one at time 1."""
    gone = variable(n + 1, n)
    left = subtracted(constant(n + 1, _ONE), gone)
    found = []
    for p, q in zip(start, goal):
        found.append(added(multiplied(left, _with_time(p)), multiplied(gone, _with_time(q))))
    return tuple(found)


def _with_time(p):
    return tuple([(exponents + (0,), coefficient) for exponents, coefficient in p])


def krawczyk_over(n, family, span, box, A):
    """Krawczyk's box of a family over a span of times, a box and a matrix."""
    return _krawczyk_of(family, _slope_rows(n, family), span, box, A)


def _slope_rows(n, family):
    """The list of the rows of the partial derivatives of a family by all variables but the time."""
    return [[derivative(p, k) for k in range(n)] for p in family]


def _krawczyk_of(family, slope_rows, span, box, A):
    middle = box_middle(box)
    values = [bounds(_along(p, middle), (span,)) for p in family]
    rows = [[bounds(p, box + (span,)) for p in row] for row in slope_rows]
    return krawczyk_form(box, values, rows, A)


def _along(p, point):
    """The polynomial in the time that p is at a point."""
    for k in reversed(range(len(point))):
        p = fixed(k + 2, p, k, point[k])
    return p


def check_tube(n, family, value):
    """True if any value is a right tube for a family."""
    if type(value) != tuple or not value:
        return False
    if not all([_is_step(n, step) for step in value]):
        return False
    slope_rows = _slope_rows(n, family)
    before = None
    for step in value:
        low, high, box, A = step
        if not box_inside(_krawczyk_of(family, slope_rows, (low, high), box, A), box):
            return False
        if before is not None and not _is_joint(family, slope_rows, before, step):
            return False
        before = step
    return True


def _is_step(n, value):
    if type(value) != tuple or len(value) != 4:
        return False
    low, high, box, A = value
    if not is_number(low) or not is_number(high) or compare(low, high) >= 0:
        return False
    return is_box(n, box) and is_matrix(n, n, A)


def _is_joint(family, slope_rows, first, second):
    """True if the second step begins where the first one ends, with the same zero."""
    _, end, box, A = first
    low, _, other, _ = second
    return low == end and box_within(_krawczyk_of(family, slope_rows, (end, end), box, A), other)


def track(n, family, box, A, most):
    """The pair of a word and a tube, of at most so many steps, from the zero in a box at time 0 on."""
    slope_rows = _slope_rows(n, family)
    steps = []
    t = _ZERO
    inner = krawczyk(at_time(n, family, t), box, A)
    while t != _ONE and len(steps) < most:
        step = _next_step(n, family, slope_rows, t, inner)
        if step is None:
            break
        _, t, wide, B = step
        inner = _krawczyk_of(family, slope_rows, (t, t), wide, B)
        steps.append(step)
    if t == _ONE:
        return "whole", tuple(steps)
    return ("part" if steps else "none"), tuple(steps)


def _next_step(n, family, slope_rows, t, inner):
    """The first step from the time t on that holds, with the zero in the inner box, or None."""
    center = tuple([_rounded_down(x) for x in box_middle(inner)])
    A = inverse(jacobian(n, at_time(n, family, t), center))
    if A is None:
        return None
    boxes = [_box_around(center, (1, 1 << i)) for i in range(_BOXES_TRIED)]
    boxes = [box for box in boxes if box_within(inner, box)]
    for j in range(_TIMES_TRIED):
        high = plus(t, (1, 1 << j))
        if compare(high, _ONE) > 0:
            high = _ONE
        for box in boxes:
            if box_inside(_krawczyk_of(family, slope_rows, (t, high), box, A), box):
                return (t, high, box, A)
    return None


def _rounded_down(x):
    a, b = x
    return number((a << _MIDDLE_BITS) // b, 1 << _MIDDLE_BITS)


def _box_around(center, size):
    return tuple([(minus(x, size), plus(x, size)) for x in center])


def zero_at(n, family, tube, t, bits):
    """A box that has the zero of the path of a right tube at a time t, narrow as told."""
    steps = [step for step in tube if has((step[0], step[1]), t)]
    _, _, box, A = steps[0]
    # What holds over the span of a step holds at each of its times.
    return narrowed(at_time(n, family, t), box, A, bits)


def end_boxes(n, family, tube, bits):
    """The pair of such boxes at the first low and at the last high of a right tube."""
    return zero_at(n, family, tube, tube[0][0], bits), zero_at(n, family, tube, tube[-1][1], bits)


def joined(first, second):
    """The tube of the steps of two tubes."""
    return first + second


def cut(tube, t):
    """The pair of the tubes that come about if a tube is cut at a time strictly within it."""
    before = []
    behind = []
    for low, high, box, A in tube:
        if compare(low, t) < 0:
            before.append((low, high if compare(high, t) < 0 else t, box, A))
        if compare(t, high) < 0:
            behind.append((low if compare(t, low) < 0 else t, high, box, A))
    return tuple(before), tuple(behind)

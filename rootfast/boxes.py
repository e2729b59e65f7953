"""Boxes: tuples of n intervals, for all points whose coordinates lie in them."""

from rootfast.intervals import (
    has,
    hull_of,
    is_interval,
    lies_inside,
    lies_within,
    meeting_of,
    middle_of,
    rounded,
    width_of,
)
from rootfast.numbers import compare, minus, plus, times

_HALF = (1, 2)


def is_box(n, value):
    """True if any value is a box in n variables."""
    if type(value) != tuple or len(value) != n:
        return False
    return all([is_interval(i) for i in value])


def box_middle(box):
    """The point of the middles."""
    return tuple([middle_of(i) for i in box])


def box_widths(box):
    """The tuple of the widths."""
    return tuple([width_of(i) for i in box])


def longest(box):
    """The index of the greatest width, the least one if there are several."""
    widths = box_widths(box)
    best = 0
    for k, width in enumerate(widths):
        if compare(width, widths[best]) > 0:
            best = k
    return best


def halves(box, k):
    """The pair of the boxes that come about if the interval k is cut at its middle."""
    low, high = box[k]
    cut = middle_of(box[k])
    return with_interval(box, k, (low, cut)), with_interval(box, k, (cut, high))


def with_interval(box, k, interval):
    """The box with another interval k."""
    return box[:k] + (interval,) + box[k + 1:]


def box_has(box, point):
    """True if the point is in the box."""
    return all([has(i, x) for i, x in zip(box, point)])


def box_within(box, other):
    """True if each interval of the first box lies within that of the other one."""
    return all([lies_within(i, j) for i, j in zip(box, other)])


def box_inside(box, other):
    """True if each interval of the first box lies inside of that of the other one."""
    return all([lies_inside(i, j) for i, j in zip(box, other)])


def box_meeting(box, other):
    """The box of the points that both have, or None."""
    found = []
    for i, j in zip(box, other):
        both = meeting_of(i, j)
        if both is None:
            return None
        found.append(both)
    return tuple(found)


def box_hull(box, other):
    """The least box that has all points of both."""
    return tuple([hull_of(i, j) for i, j in zip(box, other)])


def widened(box):
    """The box with the same middle and twice the widths."""
    return tuple([_widened_interval(i) for i in box])


def _widened_interval(i):
    more = times(width_of(i), _HALF)
    return (minus(i[0], more), plus(i[1], more))


def box_rounded(box, bits):
    """The box of the rounded intervals."""
    return tuple([rounded(i, bits) for i in box])


def corners(box):
    """The list of the different points each of whose coordinates is an end of its interval."""
    ends = [[low] if low == high else [low, high] for low, high in box]
    found = [()]
    for row in ends:
        found = [point + (x,) for point in found for x in row]
    return found

"""Least values of polynomials over boxes, with papers that prove them up to a gap."""

from rootfast.bounds import bounds
from rootfast.boxes import box_has, box_middle, halves, longest
from rootfast.numbers import compare, is_number, minus
from rootfast.polynomials import value_at
from rootfast.trees import all_leaves_fit

_OVER = ("over",)


def check_least(p, box, value):
    """True if any value is a least paper in which halvings lie at most 40 deep in one another."""
    if type(value) != tuple or len(value) != 3:
        return False
    low, point, tree = value
    if not is_number(low) or not _is_point(len(box), point):
        return False
    if not box_has(box, point):
        return False
    return all_leaves_fit(box, tree, lambda part, leaf: leaf == _OVER and _is_over(p, part, low))


def _is_point(n, value):
    return type(value) == tuple and len(value) == n and all([is_number(x) for x in value])


def _is_over(p, box, low):
    return compare(bounds(p, box)[0], low) >= 0


def least(p, box, gap, depth):
    """The least paper for a bound that is by a gap less than the least value found at middles, or None."""
    parts = _cut_so_deep(box, depth)
    point = _least_middle(p, parts)
    low = minus(value_at(p, point), gap)
    if not all([_is_over(p, part, low) for part in parts]):
        return None
    return low, point, _tree_over(p, box, low)


def _cut_so_deep(box, depth):
    """The list, from left to right, of the boxes that come about if a box is cut so many times."""
    parts = [box]
    for _ in range(depth):
        parts = [half for part in parts for half in halves(part, longest(part))]
    return parts


def _least_middle(p, parts):
    """The first one of the middles at which p is least."""
    best = box_middle(parts[0])
    least_value = value_at(p, best)
    for part in parts[1:]:
        middle = box_middle(part)
        here = value_at(p, middle)
        if compare(here, least_value) < 0:
            best = middle
            least_value = here
    return best


def _tree_over(p, box, low):
    """The tree of a box, of which each part that was cut so deep as told is known to be over the bound."""
    if _is_over(p, box, low):
        return _OVER
    k = longest(box)
    first, second = halves(box, k)
    return ("halve", k, _tree_over(p, first, low), _tree_over(p, second, low))


def least_between(p, paper):
    """The interval in which a least paper tells the least value of p to lie."""
    low, point, _ = paper
    return (low, value_at(p, point))

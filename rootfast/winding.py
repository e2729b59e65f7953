"""Winding numbers of square systems in the plane around the boundaries of boxes."""

from rootfast.bounds import bounds
from rootfast.boxes import halves, longest, with_interval
from rootfast.intervals import sign_of

_MOST_HALVINGS = 40


def check_walk(system, box, value):
    """True if any value is a walk in which at most 40 halvings lie on the way to any sign."""
    if type(value) != tuple or len(value) != 4:
        return False
    return all([_is_side_paper(system, box, k, paper) for k, paper in enumerate(value)])


def _side(box, k):
    """The side with the number k, as a box."""
    x, y = box
    if k == 0 or k == 2:
        end = y[0] if k == 0 else y[1]
        return with_interval(box, 1, (end, end))
    end = x[1] if k == 1 else x[0]
    return with_interval(box, 0, (end, end))


def _walked_halves(side, k):
    """The pair of the halves of a part of the side k, the one that is walked first in front."""
    lower, upper = halves(side, longest(side))
    return (lower, upper) if k < 2 else (upper, lower)


def _is_side_paper(system, box, k, value):
    waiting = [(_side(box, k), value, 0)]
    while waiting:
        part, paper, depth = waiting.pop()
        if type(paper) != tuple or len(paper) != 3:
            return False
        word, first, second = paper
        if type(word) != str:
            return False
        if word == "halve" and depth < _MOST_HALVINGS:
            before, behind = _walked_halves(part, k)
            waiting.append((behind, second, depth + 1))
            waiting.append((before, first, depth + 1))
        elif word != "sign" or not _is_right_sign(system, part, first, second):
            return False
    return True


def _is_right_sign(system, part, k, sign):
    if type(k) != int or type(sign) != int or not 0 <= k < len(system):
        return False
    return sign != 0 and sign_of(bounds(system[k], part)) == sign


def walk(system, box, depth):
    """The walk that halves only where it must, and at most so deep, or None."""
    found = []
    for k in range(4):
        paper = _side_paper(system, _side(box, k), k, depth)
        if paper is None:
            return None
        found.append(paper)
    return tuple(found)


def _side_paper(system, part, k, depth):
    for index, p in enumerate(system):
        sign = sign_of(bounds(p, part))
        if sign != 0:
            return ("sign", index, sign)
    if depth == 0:
        return None
    before, behind = _walked_halves(part, k)
    first = _side_paper(system, before, k, depth - 1)
    if first is None:
        return None
    second = _side_paper(system, behind, k, depth - 1)
    return None if second is None else ("halve", first, second)


def winding(walk):
    """The winding number that a walk tells."""
    quarters = _quarters(walk)
    total = 0
    last = quarters[-1]
    for quarter in quarters:
        change = (quarter - last) & 3
        total += -1 if change == 3 else change
        last = quarter
    return total // 4


def _quarters(walk):
    """The list of the quarters of the signs of a walk, as they are walked."""
    found = []
    waiting = list(reversed(walk))
    while waiting:
        word, first, second = waiting.pop()
        if word == "halve":
            waiting.append(second)
            waiting.append(first)
        else:
            found.append(first if second == 1 else first + 2)
    return found


def least_zeros(system, box, depth):
    """The size of the winding number of a box, or None if no walk so deep is found."""
    found = walk(system, box, depth)
    return None if found is None else abs(winding(found))

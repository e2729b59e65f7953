"""Combs: Descartes' rule for a range that is halved again and again."""

from rootfast.halving import lower_half, moved_by_one, over_unit, unit_variations
from rootfast.whole import wholes_of


def variations(p, low, high):
    """The number of changes of sign that Descartes' rule tells for p from low to high."""
    return unit_variations(over_unit(wholes_of(p), low, high))


def check_comb(p, low, high, value):
    """True if any value is a right comb for p, low and high."""
    waiting = [(over_unit(wholes_of(p), low, high), value)]
    while waiting:
        f, part = waiting.pop()
        if type(part) != tuple or not part:
            return False
        word = part[0]
        if type(word) != str:
            return False
        if word == "halve" and len(part) == 3:
            lower = lower_half(f)
            waiting.append((moved_by_one(lower), part[2]))
            waiting.append((lower, part[1]))
        elif len(part) != 1 or not _is_right_leaf(f, word):
            return False
    return True


def _is_right_leaf(f, word):
    if word == "rest":
        return True
    count = unit_variations(f)
    return (word == "none" and count == 0) or (word == "one" and count == 1)


def comb(p, low, high, depth):
    """The comb for p, low and high that halves only where it must, and at most so deep."""
    return _comb_of(over_unit(wholes_of(p), low, high), depth)


def _comb_of(f, depth):
    count = unit_variations(f)
    if count == 0:
        return ("none",)
    if count == 1:
        return ("one",)
    if depth == 0:
        return ("rest",)
    lower = lower_half(f)
    return ("halve", _comb_of(lower, depth - 1), _comb_of(moved_by_one(lower), depth - 1))


def comb_count(p, low, high, comb):
    """The number of different roots of p strictly between low and high that a right comb tells, or None."""
    count = 0
    waiting = [(over_unit(wholes_of(p), low, high), comb)]
    while waiting:
        f, part = waiting.pop()
        word = part[0]
        if word == "rest":
            return None
        if word == "one":
            count += 1
        elif word == "halve":
            lower = lower_half(f)
            upper = moved_by_one(lower)
            # A root at the middle lies strictly within neither half.
            if upper[0] == 0:
                count += 1
            waiting.append((upper, part[2]))
            waiting.append((lower, part[1]))
    return count

"""Real roots of lists of integers (see whole.py), by Descartes' rule and by halving."""

from rootfast.intervals import middle_of, width_of
from rootfast.numbers import power, times
from rootfast.polynomials import moved
from rootfast.whole import fraction_form, primitive, sign_at_number, slope_of, wholes_of


def moved_by_one(f):
    """The list whose value at x is that of f at x + 1."""
    row = list(f)
    for start in range(len(row) - 1):
        for k in reversed(range(start, len(row) - 1)):
            row[k] += row[k + 1]
    return row


def sign_changes(values):
    """The number of changes of sign in a list of integers, without the zeros."""
    count = 0
    last = 0
    for value in values:
        if value != 0:
            if (value < 0 < last) or (last < 0 < value):
                count += 1
            last = value
    return count


def unit_variations(f):
    """The variations of f from 0 to 1: 0 and 1 tell the number of roots strictly between them."""
    return sign_changes(moved_by_one(f[::-1]))


def stretched(p, low, high):
    """The polynomial whose value at x is that of p at low + (high - low) * x."""
    width = width_of((low, high))
    return tuple([(e, times(coefficient, power(width, e[0]))) for e, coefficient in moved(1, p, (low,))])


def over_unit(f, low, high):
    """A multiple of the list whose value at x is that of f at low + (high - low) * x."""
    return primitive(wholes_of(stretched(fraction_form(f, 1, 1), low, high)))


def lower_half(f):
    """A multiple of the list whose value at x is that of f at x / 2."""
    top = len(f) - 1
    return primitive([c << (top - k) for k, c in enumerate(f)])


def open_roots(f, low, high):
    """The list of one pair (left, right) of numbers for each root of f strictly between low and high.

    f has no multiple root. The pairs ascend; in each one left and right are both the root, or the
    root is the only one strictly between them.
    """
    found = []
    # The part to be looked at first stands last.
    waiting = [(over_unit(f, low, high), low, high)]
    while waiting:
        g, left, right = waiting.pop()
        count = unit_variations(g)
        if count == 1 or left == right:
            found.append((left, right))
        elif count > 1:
            middle = middle_of((left, right))
            lower = lower_half(g)
            upper = moved_by_one(lower)
            waiting.append((upper, middle, right))
            if upper[0] == 0:
                waiting.append(([], middle, middle))
            waiting.append((lower, left, middle))
    return found


def sign_above(f, x):
    """The sign of f right above a number x; f has no multiple root."""
    sign = sign_at_number(f, x)
    return sign if sign != 0 else sign_at_number(slope_of(f), x)


def halved_around(f, sign, left, right):
    """The half of a pair around a single root that has it, or the pair of the root twice.

    The sign is that of f right above left.
    """
    middle = middle_of((left, right))
    here = sign_at_number(f, middle)
    if here == 0:
        return middle, middle
    return (middle, right) if here == sign else (left, middle)


def drawn_inside(f, low, high):
    """An interval strictly between low and high that has the only root of f there, or the root alone."""
    sign = sign_above(f, low)
    left, right = low, high
    while left != right and (left == low or right == high):
        left, right = halved_around(f, sign, left, right)
    return left, right

"""Intervals: pairs (low, high) of numbers, for all real numbers from low to high."""

from rootfast.numbers import compare, is_number, minus, number, plus, power, times

_ZERO = (0, 1)
_ONE = (1, 1)


def is_interval(value):
    """True if any value is an interval."""
    if type(value) != tuple or len(value) != 2:
        return False
    low, high = value
    return is_number(low) and is_number(high) and compare(low, high) <= 0


def sum_of(i, j):
    """The interval of all sums of a number of i and one of j."""
    return (plus(i[0], j[0]), plus(i[1], j[1]))


def difference_of(i, j):
    """The interval of all differences of a number of i and one of j."""
    return (minus(i[0], j[1]), minus(i[1], j[0]))


def product_of(i, j):
    """The interval of all products of a number of i and one of j."""
    first = multiple_of(i[0], j)
    second = multiple_of(i[1], j)
    return hull_of(first, second)


def multiple_of(x, i):
    """The interval of all products of the number x and a number of i."""
    low = times(x, i[0])
    high = times(x, i[1])
    return (high, low) if x[0] < 0 else (low, high)


def power_of(i, k):
    """The interval of all k-th powers of the numbers of i."""
    if k == 0:
        return (_ONE, _ONE)
    low = power(i[0], k)
    high = power(i[1], k)
    if k & 1 or i[0][0] >= 0:
        return (low, high)
    if i[1][0] <= 0:
        return (high, low)
    return (_ZERO, _greater(low, high))


def meeting_of(i, j):
    """The interval of the numbers that both have, or None."""
    low = _greater(i[0], j[0])
    high = _less(i[1], j[1])
    return (low, high) if compare(low, high) <= 0 else None


def hull_of(i, j):
    """The least interval that has all numbers of both."""
    return (_less(i[0], j[0]), _greater(i[1], j[1]))


def sign_of(i):
    """1 if all numbers of i are greater than 0, -1 if all are less, 0 otherwise."""
    if i[0][0] > 0:
        return 1
    return -1 if i[1][0] < 0 else 0


def has(i, x):
    """True if the number x is in i."""
    return compare(i[0], x) <= 0 and compare(x, i[1]) <= 0


def lies_within(i, j):
    """True if all numbers of i are in j."""
    return compare(j[0], i[0]) <= 0 and compare(i[1], j[1]) <= 0


def lies_inside(i, j):
    """True if all numbers of i are in j, but no end of j is in i."""
    return compare(j[0], i[0]) < 0 and compare(i[1], j[1]) < 0


def middle_of(i):
    """The number halfway between both ends."""
    return times(plus(i[0], i[1]), (1, 2))


def width_of(i):
    """The difference of the ends."""
    return minus(i[1], i[0])


def rounded(i, bits):
    """The least interval around i whose ends are integers divided by 2 to the power of bits."""
    (a, b), (c, d) = i
    low = (a << bits) // b
    high = -((-c << bits) // d)
    return (number(low, 1 << bits), number(high, 1 << bits))


def _less(x, y):
    return x if compare(x, y) <= 0 else y


def _greater(x, y):
    return x if compare(x, y) >= 0 else y

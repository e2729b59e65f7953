"""Numbers: fractions of integers as tuples (a, b) in lowest terms with b > 0."""

from math import gcd, lcm

from rootfast.errors import BadNumber, BadText

_FIGURES = "0123456789"
_MOST_FIGURES = 60


def is_number(value):
    """True if any value is a number."""
    if type(value) != tuple or len(value) != 2:
        return False
    a, b = value
    if type(a) != int or type(b) != int:
        return False
    return b > 0 and gcd(a, b) == 1


def number(a, b):
    """The number a / b in lowest terms."""
    if b == 0:
        raise BadNumber("a fraction has 0 below the line")
    common = gcd(a, b)
    if b < 0:
        common = -common
    return (a // common, b // common)


def plus(x, y):
    """The sum of two numbers."""
    a, b = x
    c, d = y
    common = gcd(b, d)
    if common == 1:
        return (a * d + b * c, b * d)
    # Only a divisor of `common` can be left in sum and denominator: this keeps the integers small.
    above = a * (d // common) + c * (b // common)
    left = gcd(above, common)
    return (above // left, (b // common) * (d // left))


def loose_plus(x, y):
    """The sum of two pairs (a, b) with b > 0 as such a pair; none of the three is in lowest terms.

    Many fractions are summed sooner so, with `number` at the end alone.
    """
    a, b = x
    c, d = y
    if b == d:
        return (a + c, b)
    below = lcm(b, d)
    return (a * (below // b) + c * (below // d), below)


def minus(x, y):
    """The difference of two numbers."""
    return plus(x, (-y[0], y[1]))


def times(x, y):
    """The product of two numbers."""
    a, b = x
    c, d = y
    first = gcd(a, d)
    second = gcd(c, b)
    return ((a // first) * (c // second), (b // second) * (d // first))


def over(x, y):
    """The quotient of two numbers, the second one not 0."""
    c, d = y
    if c == 0:
        raise BadNumber("a quotient by 0")
    return times(x, (-d, -c) if c < 0 else (d, c))


def compare(x, y):
    """-1, 0 or 1, as x is less than, equal to or greater than y."""
    left = x[0] * y[1]
    right = y[0] * x[1]
    if left < right:
        return -1
    return 1 if left > right else 0


def whole_power(a, k):
    """The integer a to the power of an integer k that is at least 0."""
    result = 1
    for bit in reversed(range(k.bit_length())):
        result = result * result
        if k >> bit & 1:
            result = result * a
    return result


def power(x, k):
    """x to the power of an integer k that is at least 0."""
    return (whole_power(x[0], k), whole_power(x[1], k))


def write_number(x):
    """The text of a number."""
    a, b = x
    return str(a) if b == 1 else f"{a}/{b}"


def read_number(text):
    """The number with a text."""
    above, line, below = text.partition("/")
    negative = above.startswith("-")
    a = _read_figures(above[1:] if negative else above)
    if negative and a == 0:
        raise BadText("0 has no sign")
    b = 1
    if line:
        b = _read_figures(below)
        if b < 2 or gcd(a, b) != 1:
            raise BadText("a fraction is not in lowest terms")
    return (-a if negative else a, b)


def _read_figures(text):
    # The length is looked at first: Python refuses to convert very long texts by an error of its own.
    if not text or len(text) > _MOST_FIGURES:
        raise BadText("a number has no figures or too many")
    for figure in text:
        if figure not in _FIGURES:
            raise BadText("a sign is no figure")
    if text[0] == "0" and text != "0":
        raise BadText("a number begins with 0")
    return int(text)

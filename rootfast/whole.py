"""Polynomials in one variable as lists of integers, from the coefficient of the power 0 on.

The last item of a list is not 0, and the list of the polynomial 0 is empty. Such lists keep long
calculations free of fractions.
"""

from math import gcd, lcm

from rootfast.numbers import number


def whole_form(p):
    """The pair of a list and an integer greater than 0: p is the one divided by the other."""
    below = 1
    for _, coefficient in p:
        below = lcm(below, coefficient[1])
    f = [0] * (p[-1][0][0] + 1 if p else 0)
    for exponents, coefficient in p:
        f[exponents[0]] = coefficient[0] * (below // coefficient[1])
    return f, below


def wholes_of(p):
    """The list that is p times an integer greater than 0."""
    return whole_form(p)[0]


def fraction_form(f, a, b):
    """The polynomial that is the list f times a / b."""
    return tuple([((k,), number(c * a, b)) for k, c in enumerate(f) if c != 0])


def monic_form(f):
    """The polynomial with the leading coefficient 1 that is a multiple of the list f, not empty."""
    return fraction_form(f, 1, f[-1])


def trimmed(f):
    """The list f without the zeros at its end."""
    many = len(f)
    while many > 0 and f[many - 1] == 0:
        many -= 1
    return f[:many]


def primitive(f):
    """f divided by an integer: no common divisor is left, and the last item is greater than 0."""
    common = 0
    for c in f:
        common = gcd(common, c)
    if f and f[-1] < 0:
        common = -common
    return [c // common for c in f]


def slope_of(f):
    """The derivative of f."""
    return [k * f[k] for k in range(1, len(f))]


def whole_value(f, x):
    """The value of f at an integer x."""
    total = 0
    for c in reversed(f):
        total = total * x + c
    return total


def sign_at_number(f, x):
    """The sign of the value of f at a number x."""
    a, b = x
    total = 0
    scale = 1
    # The value times b to the power of the degree is worked out: it has the same sign.
    for c in reversed(f):
        total = total * a + c * scale
        scale = scale * b
    if total > 0:
        return 1
    return -1 if total < 0 else 0


def divided_whole(f, g):
    """Quotient, remainder and factor: f times the factor, not 0, is g times the quotient plus the remainder."""
    lead = g[-1]
    size = len(g) - 1
    rest = list(f)
    quotient = [0] * max(0, len(f) - size)
    factor = 1
    for k in reversed(range(len(quotient))):
        top = rest.pop()
        if top == 0:
            continue
        quotient = [lead * c for c in quotient]
        quotient[k] = top
        rest = [lead * c for c in rest]
        for j in range(size):
            rest[k + j] -= top * g[j]
        factor = factor * lead
    return quotient, trimmed(rest), factor


def exact_quotient(f, g):
    """The quotient of f by g if it has integers only and nothing is left over, otherwise None."""
    lead = g[-1]
    size = len(g) - 1
    rest = list(f)
    quotient = [0] * max(0, len(f) - size)
    for k in reversed(range(len(quotient))):
        top = rest.pop()
        if top % lead != 0:
            return None
        c = top // lead
        quotient[k] = c
        for j in range(size):
            rest[k + j] -= c * g[j]
    return None if trimmed(rest) else quotient


def greatest_divisor(f, g):
    """The greatest common divisor of two lists, not both empty, with no common divisor of its items."""
    if not f or not g:
        return primitive(f + g)
    first = primitive(f)
    second = primitive(g)
    # All roots of the list with the least coefficients are less in size than half this point. So at
    # the point a missing factor would be too great to hide in a divisor of the coefficients that are
    # read off: what is read off and divides both lists is the greatest divisor. The margin spares tries.
    point = (2 * min(_greatest_size(first), _greatest_size(second)) + 2) << 32
    while True:
        common = gcd(whole_value(first, point), whole_value(second, point))
        found = primitive(_read_off(common, point))
        if exact_quotient(first, found) is not None and exact_quotient(second, found) is not None:
            return found
        point = point * point + 1


def _greatest_size(f):
    return max([abs(c) for c in f])


def _read_off(value, point):
    """The list of integers at most half of the point in size that has the value at the point."""
    f = []
    while value != 0:
        c = value % point
        if 2 * c > point:
            c -= point
        f.append(c)
        value = (value - c) // point
    return f


def rational_multiples(f):
    """The ascending list of the integers that are the last item of f times a rational root of f.

    f has no multiple root, its items no common divisor, and its last item is greater than 0.
    """
    # A root modulo an integer that is single there is one modulo its powers, too, in one way only. So
    # the integers sought are known modulo a power that is greater than any of them.
    limit = 4 * _greatest_size(f)
    start, pairs = _single_roots_modulo(f)
    found = []
    for root, turned in pairs:
        root, modulus = _lifted(f, root, turned, start, limit)
        c = f[-1] * root % modulus
        if 2 * c > modulus:
            c -= modulus
        if sign_at_number(f, (c, f[-1])) == 0:
            found.append(c)
    return sorted(found)


def _single_roots_modulo(f):
    """An integer, and the list of the roots modulo it, all single, each with the inverse of the slope there."""
    modulus = 3
    while True:
        if gcd(f[-1], modulus) == 1:
            pairs = _roots_modulo(f, modulus)
            if pairs is not None:
                return modulus, pairs
        modulus += 2


def _roots_modulo(f, modulus):
    """The list of the pairs of the roots and the inverses of the slopes, or None if there is one without."""
    rest = [c % modulus for c in f]
    slope = slope_of(rest)
    found = []
    for x in range(modulus):
        if _value_modulo(rest, x, modulus) == 0:
            turned = _inverse_modulo(_value_modulo(slope, x, modulus), modulus)
            if turned is None:
                return None
            found.append((x, turned))
    return found


def _value_modulo(f, x, modulus):
    total = 0
    for c in reversed(f):
        total = (total * x + c) % modulus
    return total


def _inverse_modulo(a, modulus):
    for b in range(modulus):
        if a * b % modulus == 1:
            return b
    return None


def _lifted(f, root, turned, modulus, limit):
    """The root modulo a power of the modulus that is greater than the limit, and this power."""
    slope = slope_of(f)
    while modulus <= limit:
        modulus = modulus * modulus
        root = (root - _value_modulo(f, root, modulus) * turned) % modulus
        turned = turned * (2 - _value_modulo(slope, root, modulus) * turned) % modulus
    return root, modulus

"""Polynomials in one variable: division, greatest common divisors and parts."""

from rootfast.whole import (
    divided_whole,
    exact_quotient,
    fraction_form,
    greatest_divisor,
    monic_form,
    primitive,
    slope_of,
    trimmed,
    whole_form,
    wholes_of,
)


def divided(p, q):
    """The pair of the quotient and the remainder of p by q."""
    if not p:
        return (), ()
    # Without common divisors the integers stay short.
    f, (f_above, f_below) = _primitive_form(p)
    g, (g_above, g_below) = _primitive_form(q)
    quotient, rest, factor = divided_whole(f, g)
    below = f_below * factor
    return fraction_form(quotient, f_above * g_below, below * g_above), fraction_form(rest, f_above, below)


def _primitive_form(p):
    """The primitive list of p, other than 0, and the pair (a, b): p is the list times a / b."""
    wholes, below = whole_form(p)
    f = primitive(wholes)
    return f, (wholes[-1] // f[-1], below)


def common_divisor(p, q):
    """The greatest common divisor of p and q, one of which may be 0, with the leading coefficient 1."""
    return monic_form(greatest_divisor(wholes_of(p), wholes_of(q)))


def parts(p):
    """The list of the pairs (k, q): the roots of q are those of p of the multiplicity k."""
    return [(k, monic_form(f)) for k, f in whole_parts(p)]


def whole_parts(p):
    """As parts(p), with lists of integers (see whole.py) that are multiples of the polynomials."""
    f = primitive(wholes_of(p))
    slope = slope_of(f)
    common = greatest_divisor(f, slope)
    # Yun's way: `left` is the product of the parts from k on, and `beside` has the degree of its derivative.
    left = exact_quotient(f, common)
    beside = exact_quotient(slope, common)
    found = []
    k = 1
    while len(left) > 1:
        here = trimmed([a - b for a, b in zip(beside, slope_of(left))])
        part = greatest_divisor(left, here)
        if len(part) > 1:
            found.append((k, part))
        left = exact_quotient(left, part)
        beside = exact_quotient(here, part)
        k += 1
    return found


def simple_part(p):
    """The product of the polynomials of parts(p)."""
    return monic_form(simple_whole(p))


def simple_whole(p):
    """As simple_part(p), as a list of integers (see whole.py) that is a multiple of it."""
    f = primitive(wholes_of(p))
    return exact_quotient(f, greatest_divisor(f, slope_of(f)))

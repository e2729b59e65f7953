"""Real roots of polynomials in one variable: counted, isolated and refined."""

from rootfast.halving import drawn_inside, halved_around, open_roots, sign_changes
from rootfast.intervals import width_of
from rootfast.numbers import compare
from rootfast.polynomials import derivative, scaled
from rootfast.single import divided, simple_part, simple_whole, whole_parts
from rootfast.whole import sign_at_number, wholes_of


def chain(p):
    """Sturm's chain of p, a list of polynomials."""
    first = simple_part(p)
    found = [first]
    following = derivative(first, 0)
    while following:
        found.append(following)
        _, rest = divided(found[-2], found[-1])
        following = scaled(rest, (-1, 1))
    return found


def changes(chain, x):
    """The number of changes of sign in the values of a chain at a number x."""
    return sign_changes([sign_at_number(wholes_of(p), x) for p in chain])


def count_roots(p, low, high):
    """The number of different real roots of p that are greater than low and at most high."""
    # Descartes' rule and halving tell what the chain tells, without its very long fractions.
    f = simple_whole(p)
    count = len(open_roots(f, low, high))
    return count + 1 if sign_at_number(f, high) == 0 else count


def root_bound(p):
    """The least integer that is at least Cauchy's bound for the sizes of the roots of p."""
    f = wholes_of(p)
    lead = abs(f[-1])
    greatest = max([abs(c) for c in f[:-1]], default=0)
    return 1 - (-greatest // lead)


def isolated(p):
    """The list of the pairs (interval, k), one for each real root of p, with its multiplicity k."""
    f = simple_whole(p)
    bound = root_bound(p)
    # A power of 2 keeps the denominators of all middles small.
    end = 1 << bound.bit_length()
    found = []
    rows = whole_parts(p)
    for left, right in open_roots(f, (-end, 1), (end, 1)):
        # Touching intervals, and ends that are other roots, go away inside.
        interval = drawn_inside(f, left, right)
        multiplicity = [k for k, part in rows if _has_single_root(part, interval)][0]
        found.append((interval, multiplicity))
    return found


def _has_single_root(f, interval):
    """True if the only number in an interval that may be a root of f, and a single one, is a root of it."""
    sign = sign_at_number(f, interval[0])
    return sign == 0 or sign != sign_at_number(f, interval[1])


def refined(p, interval, bits):
    """An interval with the same root of p and a width of at most 1 / 2 ** bits."""
    left, right = interval
    f = wholes_of(p)
    sign = sign_at_number(f, left)
    if sign == sign_at_number(f, right):
        # The root has an even multiplicity, or is both ends: only the simple part changes its sign.
        f = simple_whole(p)
        sign = sign_at_number(f, left)
    while compare(width_of((left, right)), (1, 1 << bits)) > 0:
        left, right = halved_around(f, sign, left, right)
    return left, right

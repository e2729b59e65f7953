"""Signs on the line: of polynomials in one variable between and at their roots."""

from rootfast.intervals import middle_of
from rootfast.numbers import compare, minus, plus
from rootfast.polynomials import value_at
from rootfast.roots import compare_roots, near, roots_of, sign_at

_ZERO = (0, 1)
_ONE = (1, 1)
_SIGNS = "<=>"


def marks(polynomials):
    """The ascending list of the roots of some polynomials other than 0, each number once."""
    found = []
    for p in polynomials:
        found = _merged(found, roots_of(p))
    return found


def _merged(first, second):
    """The ascending list of the roots of two such lists, each number once."""
    found = []
    at = 0
    for s in second:
        order = -1
        while at < len(first) and order < 0:
            order = compare_roots(first[at], s)
            if order <= 0:
                found.append(first[at])
                at += 1
        if order != 0:
            found.append(s)
    return found + first[at:]


def samples(polynomials):
    """The list of one sample for each cell that the marks of some polynomials make."""
    points = marks(polynomials)
    if not points:
        return [("number", _ZERO)]
    found = [("number", minus(points[0][1][0], _ONE))]
    for k, r in enumerate(points):
        found.append(("root", r))
        if k + 1 < len(points):
            found.append(("number", _number_between(r, points[k + 1])))
    return found + [("number", plus(points[-1][1][1], _ONE))]


def _number_between(r, s):
    """A number greater than r and less than s."""
    bits = 4
    first = r[1]
    second = s[1]
    while compare(first[1], second[0]) >= 0:
        first = near((r[0], first), bits)
        second = near((s[0], second), bits)
        bits = 2 * bits
    return middle_of((first[1], second[0]))


def sign_of_sample(p, sample):
    """The sign of a polynomial at a sample."""
    word, place = sample
    if word == "root":
        return sign_at(p, place)
    return compare(value_at(p, (place,)), _ZERO)


def sign_table(polynomials):
    """The list, for each cell, of the tuple of the signs of the polynomials there."""
    return [_signs_at(polynomials, sample) for sample in samples(polynomials)]


def _signs_at(polynomials, sample):
    return tuple([sign_of_sample(p, sample) for p in polynomials])


def meets(conditions, sample):
    """True if a sample meets all conditions of a list."""
    return all([_fits(sign_of_sample(p, sample), word) for p, word in conditions])


def _fits(sign, word):
    """True if a value with this sign meets a condition with this word."""
    # Each word is made of the signs that fit.
    return _SIGNS[sign + 1] in word


def cells_that_meet(conditions):
    """The ascending list of the numbers of the cells whose numbers meet all conditions."""
    return [k for k, sample in enumerate(_samples_for(conditions)) if meets(conditions, sample)]


def _samples_for(conditions):
    return samples([p for p, _ in conditions if p])


def solution(conditions):
    """The sample of the first cell whose numbers meet all conditions, or None."""
    for sample in _samples_for(conditions):
        if meets(conditions, sample):
            return sample
    return None

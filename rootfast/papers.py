"""Papers for boxes: proofs that a box has no zero, exactly one or at least one zero of a square system."""

from rootfast.bounds import bounds, slopes
from rootfast.boxes import (
    box_hull,
    box_inside,
    box_meeting,
    box_middle,
    box_widths,
    box_within,
    halves,
    longest,
    with_interval,
)
from rootfast.intervals import rounded, sign_of, width_of
from rootfast.matrices import determinant, inverse, is_matrix, whole_row
from rootfast.numbers import compare, loose_plus, minus, number, plus, times
from rootfast.polynomials import polynomial, scaled
from rootfast.systems import jacobian, values_at

_ZERO = (0, 1)
_MATRIX_BITS = 64
_SPARE_BITS = 8
_FIRST_BITS = 20


def is_free(system, box, k):
    """True if the bounds of the polynomial k show that the box has no zero."""
    return sign_of(bounds(system[k], box)) != 0


def free_index(system, box):
    """The least k for which is_free holds, or None."""
    for k in range(len(system)):
        if is_free(system, box, k):
            return k
    return None


def krawczyk(system, box, A):
    """Krawczyk's box of a system, a box and a matrix: each zero in the box lies in it."""
    values = [(x, x) for x in values_at(system, box_middle(box))]
    return krawczyk_form(box, values, slopes(system, box), A)


def krawczyk_form(box, values, rows, A):
    """Krawczyk's form of Newton's step over a box.

    `values` are intervals of the values at the middle, `rows` those of the partial derivatives.
    """
    at_middle = _whole_column(values)
    columns = [_whole_column([row[j] for row in rows]) for j in range(len(box))]
    halfs = [times(width, (1, 2)) for width in box_widths(box)]
    found = []
    for i, middle in enumerate(box_middle(box)):
        numbers = whole_row(A[i])
        low, high, below = _combined(numbers, at_middle)
        size = _ZERO
        for j, half in enumerate(halfs):
            size = loose_plus(size, _share(numbers, columns[j], i == j, half))
        radius = number(size[0], size[1])
        first = minus(minus(middle, number(high, below)), radius)
        second = plus(minus(middle, number(low, below)), radius)
        found.append((first, second))
    return tuple(found)


def _whole_column(intervals):
    """The common denominator of a list of intervals, and the lists of their low and of their high ends times it."""
    below, wholes = whole_row([low for low, _ in intervals] + [high for _, high in intervals])
    return below, wholes[:len(intervals)], wholes[len(intervals):]


def _combined(numbers, column):
    """The sum of the multiples of intervals by numbers: its ends as integers, and their denominator."""
    factor, wholes = numbers
    below, lows, highs = column
    low = 0
    high = 0
    for a, first, second in zip(wholes, lows, highs):
        if a < 0:
            first, second = second, first
        low += a * first
        high += a * second
    return low, high, factor * below


def _share(numbers, column, is_own, half):
    """What one coordinate adds to the size of Krawczyk's box in another one, or its own, not in lowest terms.

    An interval less its middle lies evenly around 0. So does its product with any other one, of which
    only the greatest size counts.
    """
    low, high, below = _combined(numbers, column)
    unit = below if is_own else 0
    size = max(abs(unit - low), abs(unit - high))
    return (size * half[0], below * half[1])


def is_single(system, box, value):
    """True if any value is a right single paper for the box: it has exactly one zero, then."""
    n = len(box)
    return is_matrix(n, n, value) and box_inside(krawczyk(system, box, value), box)


def single_paper(system, box):
    """The inverse of the Jacobian matrix at the middle, if it is a right single paper, otherwise None."""
    A = _middle_inverse(system, box)
    return A if A is not None and is_single(system, box, A) else None


def _middle_inverse(system, box):
    return inverse(jacobian(len(box), system, box_middle(box)))


def is_cover(system, box, value):
    """True if any value is a right cover paper for the box: it has at least one zero, then."""
    n = len(box)
    if not is_matrix(n, n, value) or not all([low != high for low, high in box]):
        return False
    if determinant(value) == _ZERO:
        return False
    return all([_is_covered(system, box, i, row) for i, row in enumerate(value)])


def _is_covered(system, box, i, row):
    """True if the polynomials, times the numbers of a row, change from one sign to the other along i."""
    pairs = []
    for x, p in zip(row, system):
        pairs.extend(scaled(p, x))
    p = polynomial(len(box), pairs)
    low, high = box[i]
    _, greatest = bounds(p, with_interval(box, i, (low, low)))
    least, _ = bounds(p, with_interval(box, i, (high, high)))
    return greatest[0] <= 0 <= least[0]


def cover_paper(system, box):
    """The inverse of the Jacobian matrix at the middle, if it is a right cover paper, otherwise None."""
    A = _middle_inverse(system, box)
    return A if A is not None and is_cover(system, box, A) else None


def narrowed(system, box, A, bits):
    """A box within a box with a right single paper, with the same zero and widths of at most 1 / 2 ** bits."""
    finest = bits + _SPARE_BITS
    return closer(system, _part_with_zero(system, box, A, finest), bits)


def closer(system, box, bits):
    """A box as `narrowed` returns it, for a box with the zero of one, around it, with a right single paper."""
    pieces = [box]
    around = box
    width = _greatest_width(box)
    finest = bits + _SPARE_BITS
    while compare(_greatest_width(around), (1, 1 << bits)) > 0:
        pieces = _smaller_pieces(system, pieces, finest)
        # Finer each time, so that rounding never keeps a piece without the zero for good.
        finest += 1
        around = _hull_of_all(pieces)
        if compare(times(_greatest_width(around), (2, 1)), width) <= 0:
            pieces = [around]
            width = _greatest_width(around)
    return around


def _greatest_width(box):
    return width_of(box[longest(box)])


def _hull_of_all(boxes):
    around = boxes[0]
    for box in boxes:
        around = box_hull(around, box)
    return around


def _smaller_pieces(system, pieces, finest):
    """The list of the parts of boxes that may have the zero, each of at most half the width of its box."""
    found = []
    for piece in pieces:
        # A piece that is the only one left has the zero.
        if len(pieces) > 1 and free_index(system, piece) is not None:
            continue
        part = _part_with_zero(system, piece, _short_inverse(system, piece), finest)
        if part is None:
            continue
        if compare(times(_greatest_width(part), (2, 1)), _greatest_width(piece)) <= 0:
            found.append(part)
        else:
            # Where the step is no great help, as far from the zero, cutting always is.
            found.extend(halves(part, longest(part)))
    return found


def _part_with_zero(system, box, A, finest):
    """The part of a box that may have the zero, by Krawczyk's box, or None."""
    step = krawczyk(system, box, A)
    return box_meeting(tuple([_roughly(i, finest) for i in step]), box)


def _short_inverse(system, box):
    """A matrix near the inverse of the Jacobian matrix at the middle: Krawczyk's box may be taken with any one.

    Within a box with a right single paper each Jacobian matrix has an inverse.
    """
    return tuple([tuple([_shortened(x) for x in row]) for row in _middle_inverse(system, box)])


def _shortened(x):
    """A number near x, of few bits."""
    a, b = x
    bits = max(0, _MATRIX_BITS + b.bit_length() - a.bit_length())
    return number((a << bits) // b, 1 << bits)


def _roughly(i, finest):
    """An interval around i, rounded as its width allows, but not finer than told."""
    a, b = width_of(i)
    bits = finest
    if a > 0:
        bits = min(finest, max(0, b.bit_length() - a.bit_length()) + _SPARE_BITS)
    return rounded(i, bits)


def same_zero(system, box, A, other, B):
    """True if the zeros of two boxes with right single papers are the same point."""
    first = box
    second = other
    bits = _FIRST_BITS
    while True:
        told = told_same(first, box, second, other)
        if told is not None:
            return told
        first = narrowed(system, box, A, bits)
        second = narrowed(system, other, B, bits)
        bits = 2 * bits


def told_same(first, box, second, other):
    """Whether two boxes have the same zero, as far as the narrower boxes in them tell; otherwise None."""
    if box_meeting(first, second) is None:
        return False
    if box_within(first, other) or box_within(second, box):
        return True
    return None

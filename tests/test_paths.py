"""Promises [10.1] to [10.5]: families, tubes and paths."""

import unittest
from fractions import Fraction

from helpers import Maker, around, box_of, iv, num, q, strange_values, system_of, uni, value
from rootfast.bounds import bounds
from rootfast.boxes import box_has, box_inside, box_meeting, box_middle, box_widths, box_within, is_box
from rootfast.intervals import difference_of, has, multiple_of, product_of, sum_of
from rootfast.matrices import inverse
from rootfast.papers import is_single, krawczyk, narrowed, single_paper
from rootfast.paths import (
    at_time, check_tube, cut, end_boxes, is_family, joined, krawczyk_over, straight, track, zero_at,
)
from rootfast.polynomials import derivative, polynomial, value_at
from rootfast.systems import is_system, jacobian

HALF = Fraction(1, 2)
# x moves from 1 to 2.
LINE = system_of(2, "x - y - 1")
LINE_BOX = box_of((0, 2))
ONE = ((num(1),),)
# The square root of 2 moves to that of 3.
ROOTS = system_of(2, "x^2 - 2 - y")
ROOTS_BOX = box_of((1, 2))
THIRD = ((num(1, 3),),)


def mat(*rows):
    return tuple(tuple(num(x) for x in row) for row in rows)


def exact(x):
    return (x, x)


def step_of(low, high, box, A):
    return (num(low), num(high), box, A)


def slow_krawczyk_over(n, family, span, box, A):
    """Word by word as the document tells it."""
    m = box_middle(box)
    F = []
    for p in family:
        terms = []
        for exponents, coefficient in p:
            worth = q(coefficient)
            for e, x in zip(exponents, m):
                worth *= q(x) ** e
            terms.append(((exponents[n],), num(worth)))
        along = polynomial(1, terms)
        F.append(bounds(along, (span,)))
    D = [[bounds(derivative(p, k), box + (span,)) for k in range(n)] for p in family]
    found = []
    for i in range(n):
        total = exact(m[i])
        for j in range(n):
            total = difference_of(total, multiple_of(A[i][j], F[j]))
        for j in range(n):
            entry = iv(1, 1) if i == j else iv(0, 0)
            for k in range(n):
                entry = difference_of(entry, multiple_of(A[i][k], D[k][j]))
            total = sum_of(total, product_of(entry, difference_of(box[j], exact(m[j]))))
        found.append(total)
    return tuple(found)


def slow_check(n, family, tube):
    before = None
    for step in tube:
        low, high, box, A = step
        if not box_inside(slow_krawczyk_over(n, family, (low, high), box, A), box):
            return False
        if before is not None:
            _, end, old, B = before
            if low != end or not box_within(slow_krawczyk_over(n, family, exact(end), old, B), box):
                return False
        before = step
    return True


def slow_track(n, family, box, A, most):
    """Word by word as the document tells it."""
    t, steps = Fraction(0), []
    K = krawczyk(at_time(n, family, num(0)), box, A)
    while t < 1 and len(steps) < most:
        c = [Fraction((q(x) * 2 ** 20).__floor__(), 2 ** 20) for x in box_middle(K)]
        B = inverse(jacobian(n, at_time(n, family, num(t)), tuple(num(x) for x in c)))
        if B is None:
            break
        found = None
        for j in range(13):
            for i in range(15):
                span = (num(t), num(min(Fraction(1), t + Fraction(1, 2 ** j))))
                wide = around(c, Fraction(1, 2 ** i))
                if box_inside(slow_krawczyk_over(n, family, span, wide, B), wide) and box_within(K, wide):
                    found = span + (wide, B)
                    break
            if found:
                break
        if not found:
            break
        steps.append(found)
        t = q(found[1])
        K = slow_krawczyk_over(n, family, exact(found[1]), found[2], found[3])
    if t == 1:
        return "whole", tuple(steps)
    return ("part", tuple(steps)) if steps else ("none", ())


def moving(maker, n, most=2):
    """A family without a plan, a box and a right single paper for a zero at time 0."""
    while True:
        point = tuple(maker.number(3, 2) for _ in range(n))
        family = []
        for _ in range(n):
            p = maker.polynomial(n + 1, 4, most)
            at = num(value(p, [q(x) for x in point] + [0]))
            family.append(polynomial(n + 1, list(p) + [((0,) * (n + 1), num(-q(at)))]))
        family = tuple(family)
        start = at_time(n, family, num(0))
        for k in range(8):
            box = around([q(x) for x in point], Fraction(1, 2 ** k))
            A = single_paper(start, box)
            if A is not None:
                return family, box, A


class Families(unittest.TestCase):
    def test_telling(self):
        for n, family in (
            (1, LINE), (2, system_of(3, "x - z", "y*z + 1")), (3, system_of(4, "x", "y + u", "z*u")), (1, ((),)), (2, ((), ())),
        ):
            for k in (1, 2, 3):
                self.assertIs(is_family(k, family), k == n)

    def test_wrong_ones(self):
        (p,) = LINE
        for family in (
            [p], (list(p),), (p, p), (), p, (None,), (True,), ("x",), (uni(1, 1),), (system_of(3, "x")[0],), ([],), ((0, 1),),
            ((((0, 0), (2, 2)),),), ((((0, 0), (0, 1)),),), ((((0, 0), (1, True)),),), ((((1, 0), (1, 1)), ((0, 0), (1, 1))),),
        ):
            self.assertIs(is_family(1, family), False, family)
        for strange in strange_values():
            # A pair of empty tuples is the family of two polynomials that are 0.
            for n in (1, 3):
                self.assertIs(is_family(n, strange), False)
            self.assertIs(is_family(2, (p, strange)), False)
            self.assertIs(is_family(1, (strange,)), False)

    def test_at_time(self):
        self.assertEqual(at_time(1, LINE, num(0)), system_of(1, "x - 1"))
        self.assertEqual(at_time(1, LINE, num(1, 3)), system_of(1, "x - 4/3"))
        self.assertEqual(at_time(1, system_of(2, "x*y - x"), num(1)), ((),))
        family = system_of(3, "x*z + y", "y^2*z^2 - x + z")
        self.assertEqual(at_time(2, family, num(2)), system_of(2, "2*x + y", "4*y^2 - x + 2"))
        self.assertEqual(at_time(3, system_of(4, "x", "y*u", "z + u^2"), num(-1)), system_of(3, "x", "-y", "z + 1"))
        maker = Maker(80)
        for n in (1, 2, 3):
            for _ in range(10):
                family, t, point = tuple(maker.polynomial(n + 1, 5, 3) for _ in range(n)), maker.number(), maker.point(n)
                found = at_time(n, family, t)
                self.assertIs(is_system(n, found), True)
                self.assertEqual(len(found), n)
                self.assertEqual(
                    tuple(value_at(p, point) for p in found), tuple(value_at(p, point + (t,)) for p in family),
                )

    def test_straight(self):
        self.assertEqual(straight(1, system_of(1, "x - 1"), system_of(1, "x - 2")), LINE)
        self.assertEqual(straight(1, system_of(1, "x"), system_of(1, "x")), system_of(2, "x"))
        self.assertEqual(straight(2, system_of(2, "x", "0"), system_of(2, "y^2", "x*y")), system_of(3, "(1 - z)*x + z*y^2", "z*x*y"))
        maker = Maker(81)
        for n in (1, 2, 3):
            start, goal = (tuple(maker.polynomial(n, 4, 3) for _ in range(n)) for _ in range(2))
            family = straight(n, start, goal)
            self.assertIs(is_family(n, family), True)
            self.assertEqual(at_time(n, family, num(0)), start)
            self.assertEqual(at_time(n, family, num(1)), goal)
            self.assertLessEqual(max(e[-1] for p in family for e, c in p), 1)


class KrawczykOver(unittest.TestCase):
    def test_some(self):
        self.assertEqual(krawczyk_over(1, LINE, iv(0, HALF), LINE_BOX, ONE), box_of((1, Fraction(3, 2))))
        self.assertEqual(krawczyk_over(1, LINE, iv(1, 1), LINE_BOX, ONE), box_of((2, 2)))
        self.assertEqual(krawczyk_over(1, ROOTS, iv(0, 0), ROOTS_BOX, THIRD), box_of((Fraction(5, 4), Fraction(19, 12))))

    def test_word_by_word(self):
        maker = Maker(82)
        for n in (1, 2, 3):
            for _ in range(12):
                family, box, A = tuple(maker.polynomial(n + 1, 5, 3) for _ in range(n)), maker.box(n), maker.matrix(n, n)
                for span in (maker.interval(), exact(maker.number()), iv(0, 1)):
                    self.assertEqual(krawczyk_over(n, family, span, box, A), slow_krawczyk_over(n, family, span, box, A))


class Tubes(unittest.TestCase):
    first = step_of(0, HALF, box_of((0, 2)), ONE)
    second = step_of(HALF, 1, box_of((HALF, Fraction(5, 2))), ONE)

    def check(self, tube, expected, n=1, family=LINE):
        self.assertIs(check_tube(n, family, tube), expected, tube)

    def test_right_ones(self):
        self.check((self.first, self.second), True)
        self.check((self.first,), True)
        self.check((self.second,), True)
        self.check((step_of(0, 1, box_of((0, 3)), ONE),), True)
        self.check((step_of(-5, 7, box_of((-10, 10)), ONE),), True)
        self.check((self.first, step_of(HALF, 1, box_of((HALF, Fraction(5, 2))), mat([Fraction(9, 10)]))), True)

    def test_wrong_boxes_and_matrices(self):
        self.check((step_of(0, 1, box_of((0, 2)), ONE),), False)
        self.check((step_of(0, 1, box_of((1, 3)), ONE),), False)
        self.check((step_of(0, HALF, box_of((0, 2)), mat([0])),), False)
        self.check((step_of(0, HALF, box_of((0, 2)), mat([2])),), False)
        self.check((step_of(0, HALF, box_of((5, 9)), ONE),), False)
        self.check((self.first, step_of(HALF, 1, box_of((0, 2)), ONE)), False)
        self.check((step_of(0, 1, box_of((1, 1)), ONE),), False)

    def test_gaps(self):
        self.check((self.first, step_of(Fraction(3, 5), 1, box_of((HALF, Fraction(5, 2))), ONE)), False)
        self.check((self.first, step_of(Fraction(2, 5), 1, box_of((HALF, Fraction(5, 2))), ONE)), False)
        self.check((self.second, self.first), False)
        self.check((self.first, self.first), False)

    def test_the_next_box_has_the_same_zero(self):
        # Of the two zeros of x^2 = 2 + t, a step for each.
        box = box_of((Fraction(5, 4), 2))
        A = mat([Fraction(1, 3)])
        low, high = step_of(0, Fraction(1, 8), box, A), step_of(Fraction(1, 8), Fraction(1, 4), box, A)
        other = step_of(Fraction(1, 8), Fraction(1, 4), box_of((-2, Fraction(-5, 4))), mat([Fraction(-1, 3)]))
        self.check((low,), True, 1, ROOTS)
        self.check((high,), True, 1, ROOTS)
        self.check((other,), True, 1, ROOTS)
        self.check((low, high), True, 1, ROOTS)
        self.check((low, other), False, 1, ROOTS)
        # The box of the second step must have all of Krawczyk's box, not only the zero.
        thin = around([Fraction(14577, 10000)], Fraction(1, 50))
        thin_step = step_of(Fraction(1, 8), Fraction(129, 1024), thin, mat([Fraction(1, 3)]))
        self.check((thin_step,), True, 1, ROOTS)
        self.check((low, thin_step), False, 1, ROOTS)

    def test_touching_boxes(self):
        # Krawczyk's box of the first step at its end may touch the boundary of the second box, but not leave it.
        plain = system_of(2, "x - y")
        first = step_of(0, 1, box_of((-1, 2)), ONE)
        self.check((first, step_of(1, 2, box_of((1, 3)), ONE)), False, 1, plain)
        bent = mat([HALF])
        self.assertEqual(krawczyk_over(1, plain, iv(1, 1), box_of((-3, 3)), bent), box_of((-1, 2)))
        start = step_of(0, 1, box_of((-3, 3)), bent)
        self.check((start,), True, 1, plain)
        self.check((start, step_of(1, 2, box_of((-1, 3)), ONE)), True, 1, plain)
        self.check((start, step_of(1, 2, box_of((Fraction(-99, 100), 3)), ONE)), False, 1, plain)

    def test_wrong_forms(self):
        low, high, box, A = self.first
        for tube in (
            (), [self.first], (list(self.first),), self.first, ((low, high, box),), ((low, high, box, A, A),), ((high, low, box, A),),
            ((low, low, box, A),), ((0, high, box, A),), ((low, 1, box, A),), ((low, (2, 4), box, A),), ((low, (True, 2), box, A),),
            ((low, high, list(box), A),), ((low, high, box[0], A),), ((low, high, box + box, A),), ((low, high, box, [A]),),
            ((low, high, box, A[0]),), ((low, high, box, A + A),), ((low, high, box, (((1, 1), (1, 1)),)),), ((low, high, box, None),),
            ((low, high, None, A),), ((None, high, box, A),), ((low, high, A, box),), (self.first, None), (self.first, ()), "tube",
            (self.first, self.second, "end"), ((low, high, ((num(2), num(0)),), A),), ((low, high, box, (((2, 2),),)),), True, None, 1,
        ):
            self.check(tube, False)
        for strange in strange_values():
            self.check(strange, False)
            self.check((strange,), False)
            self.check((self.first, strange), False)
            for k in range(4):
                self.check((self.first[:k] + (strange,) + self.first[k + 1:],), False)

    def test_more_variables(self):
        family = system_of(3, "x - z", "y + 2*z")
        tube = (step_of(0, 1, box_of((-1, 2), (-3, 1)), mat([1, 0], [0, 1])),)
        self.check(tube, True, 2, family)
        self.check(tube, False, 2, system_of(3, "x - z", "y + 3*z"))
        self.check(tube, False, 1, LINE)
        self.check((self.first,), False, 2, family)


class Tracking(unittest.TestCase):
    def check(self, n, family, box, A, most, word=None):
        found = track(n, family, box, A, most)
        self.assertEqual(found, slow_track(n, family, box, A, most))
        told, tube = found
        self.assertEqual((type(found), type(told), type(tube)), (tuple, str, tuple))
        self.assertLessEqual(len(tube), most)
        if told == "none":
            self.assertEqual(tube, ())
        else:
            self.assertIs(check_tube(n, family, tube), True)
            self.assertIs(slow_check(n, family, tube), True)
            self.assertEqual(tube[0][0], num(0))
            self.assertIs(tube[-1][1] == num(1), told == "whole")
            low, high, last, B = tube[-1]
            self.assertIs(is_single(at_time(n, family, high), last, B), True)
        if word is not None:
            self.assertEqual(told, word)
        return found

    def test_some(self):
        self.assertEqual(self.check(1, LINE, LINE_BOX, ONE, 5), (
            "whole", (step_of(0, HALF, box_of((0, 2)), ONE), step_of(HALF, 1, box_of((HALF, Fraction(5, 2))), ONE)),
        ))
        self.check(1, ROOTS, ROOTS_BOX, THIRD, 20, "whole")
        self.check(1, system_of(2, "x"), box_of((-1, 1)), ONE, 1, "whole")
        self.check(1, system_of(2, "x"), box_of((-1, 1)), ONE, 5, "whole")

    def test_too_few_steps(self):
        whole = self.check(1, ROOTS, ROOTS_BOX, THIRD, 20, "whole")[1]
        self.assertGreater(len(whole), 1)
        for most in range(1, len(whole)):
            self.assertEqual(self.check(1, ROOTS, ROOTS_BOX, THIRD, most), ("part", whole[:most]))
        self.assertEqual(self.check(1, ROOTS, ROOTS_BOX, THIRD, len(whole)), ("whole", whole))
        self.assertEqual(len(self.check(1, LINE, LINE_BOX, ONE, 1, "part")[1]), 1)

    def test_zeros_that_end(self):
        # Both zeros of x^2 = 1/2 - t come together and end.
        ending = system_of(2, "x^2 - 1/2 + y")
        box = box_of((HALF, 1))
        word, tube = self.check(1, ending, box, single_paper(at_time(1, ending, num(0)), box), 60, "part")
        self.assertTrue(len(tube) < 60 and q(tube[-1][1]) <= HALF)

    def test_no_matrix(self):
        # The middle is rounded down to 0, where the slope is 0.
        family = ((((0, 0), (-1, 2 ** 42)), ((2, 0), (1, 1))),)
        box = around([Fraction(1, 2 ** 21)], Fraction(1, 2 ** 24))
        A = single_paper(at_time(1, family, num(0)), box)
        self.assertIsNotNone(A)
        self.assertEqual(self.check(1, family, box, A, 5), ("none", ()))

    def test_none(self):
        # The slope by the time is too steep for any of the spans.
        steep = system_of(2, "x - 100000*y")
        self.assertEqual(self.check(1, steep, box_of((-1, 1)), ONE, 3), ("none", ()))
        # No box of the told sizes has Krawczyk's box, as that of a poor matrix.
        broad = system_of(2, "1/1000*x - y")
        self.assertEqual(self.check(1, broad, box_of((-9, 9)), ONE, 3), ("none", ()))

    def test_the_least_boxes_and_spans(self):
        # The slope changes so soon that only boxes of this size hold, with the last ones being tried.
        for size, word in ((14, "whole"), (15, "none")):
            bent = ((((1, 0), (1, 1)), ((2, 0), num(3 * 2 ** (size - 3)))),)
            box = around([0], Fraction(1, 2 ** 20))
            word, tube = self.check(1, bent, box, ONE, 3, word)
            self.assertEqual([step[2] for step in tube], [around([0], Fraction(1, 2 ** 14))] * len(tube))
        for speed, word in ((3000, "part"), (6000, "none")):
            word, tube = self.check(1, ((((0, 1), num(-speed)), ((1, 0), (1, 1))),), box_of((-1, 1)), ONE, 1, word)
            self.assertEqual([step[1] for step in tube], [num(1, 2 ** 12)] * len(tube))

    def test_more_variables(self):
        turning = system_of(3, "x^2 + y^2 - 2", "x - y - 1/2*z")
        box = around([1, 1], Fraction(1, 4))
        self.check(2, turning, box, single_paper(at_time(2, turning, num(0)), box), 3)
        three = system_of(4, "x - 1/2*u", "y + x*u", "z - y - u")
        box = around([0, 0, 0], HALF)
        self.check(3, three, box, mat([1, 0, 0], [0, 1, 0], [0, 1, 1]), 2)

    def test_straight_ones(self):
        family = straight(2, system_of(2, "x^2 - 1", "y - 1"), system_of(2, "x^2 - 2", "y^2 - 2 + x - y"))
        box = around([1, 1], Fraction(1, 8))
        self.check(2, family, box, single_paper(at_time(2, family, num(0)), box), 3)

    def test_many(self):
        maker = Maker(83)
        words = []
        for n, most, many in ((1, 8, 12), (2, 3, 5), (3, 1, 2)):
            for _ in range(many):
                family, box, A = moving(maker, n)
                words.append(self.check(n, family, box, A, most)[0])
        self.assertIn("part", words)
        self.assertIn("whole", words)


class Using(unittest.TestCase):
    tube = track(1, ROOTS, ROOTS_BOX, THIRD, 20)[1]
    turning = system_of(3, "x^2 + y^2 - 2", "x - y - 1/2*z")
    corner = around([1, 1], Fraction(1, 4))
    turned = track(2, turning, corner, single_paper(at_time(2, turning, num(0)), corner), 4)[1]

    def check_zero(self, n, family, tube, t, bits):
        found = zero_at(n, family, tube, t, bits)
        self.assertIs(is_box(n, found), True)
        for width in box_widths(found):
            self.assertLessEqual(q(width), Fraction(1, 2 ** bits))
        for low, high, box, A in tube:
            if has((low, high), t):
                exactly = narrowed(at_time(n, family, t), box, A, 60)
                self.assertIsNotNone(box_meeting(exactly, found))
        return found

    def test_zeros(self):
        ends = {step[0] for step in self.tube} | {step[1] for step in self.tube}
        for t in ends | {num(1, 3), num(5, 7), num(1, 1000)}:
            for bits in (0, 1, 20, 40):
                ((low, high),) = self.check_zero(1, ROOTS, self.tube, t, bits)
                self.assertTrue(q(low) ** 2 <= 2 + q(t) <= q(high) ** 2)

    def test_zeros_of_others(self):
        for t in (self.turned[0][0], self.turned[0][1], self.turned[-1][1], num((q(self.turned[0][0]) + q(self.turned[0][1])) / 2)):
            for bits in (0, 30):
                self.check_zero(2, self.turning, self.turned, t, bits)
        # At time 1 terms of the family fall away that its bounds over the span still count.
        falling = system_of(2, "x - x*y + y*x - 1/2*y")
        tube = track(1, falling, box_of((-1, 1)), ONE, 8)[1]
        self.assertEqual(tube[-1][1], num(1))
        self.assertIs(box_has(self.check_zero(1, falling, tube, num(1), 10), (num(1, 2),)), True)

    def test_end_boxes(self):
        for bits in (0, 5, 40):
            found = end_boxes(1, ROOTS, self.tube, bits)
            self.assertEqual((type(found), len(found)), (tuple, 2))
            for box, worth in zip(found, (2, 3)):
                ((low, high),) = box
                self.assertTrue(q(low) ** 2 <= worth <= q(high) ** 2)
                self.assertLessEqual(q(high) - q(low), Fraction(1, 2 ** bits))
        first, last = end_boxes(2, self.turning, self.turned, 20)
        self.assertIs(box_has(first, (num(1), num(1))), True)
        self.assertIs(box_within(last, self.turned[-1][2]), True)

    def test_joined(self):
        for k in range(1, len(self.tube)):
            first, second = self.tube[:k], self.tube[k:]
            found = joined(first, second)
            self.assertIs(type(found), tuple)
            self.assertEqual(found, self.tube)
            self.assertIs(check_tube(1, ROOTS, found), True)
        self.assertEqual(joined(self.tube, self.tube), self.tube + self.tube)
        self.assertIs(check_tube(1, ROOTS, joined(self.tube, self.tube)), False)

    def test_cut_between_steps(self):
        for k in range(1, len(self.tube)):
            self.assertEqual(cut(self.tube, self.tube[k][0]), (self.tube[:k], self.tube[k:]))

    def test_cut_within_a_step(self):
        for k, (low, high, box, A) in enumerate(self.tube):
            for share in (HALF, Fraction(1, 7), Fraction(99, 100)):
                t = num(q(low) + share * (q(high) - q(low)))
                first, second = cut(self.tube, t)
                self.assertEqual(first, self.tube[:k] + ((low, t, box, A),))
                self.assertEqual(second, ((t, high, box, A),) + self.tube[k + 1:])
                for tube in (first, second, joined(first, second)):
                    self.assertIs(type(tube), tuple)
                    self.assertIs(check_tube(1, ROOTS, tube), True)
                self.assertIsNotNone(box_meeting(end_boxes(1, ROOTS, first, 40)[1], end_boxes(1, ROOTS, second, 40)[0]))

    def test_cut_of_one_step(self):
        tube = (step_of(0, 1, box_of((0, 3)), ONE),)
        found = cut(tube, num(1, 3))
        self.assertEqual(found, ((step_of(0, Fraction(1, 3), box_of((0, 3)), ONE),), (step_of(Fraction(1, 3), 1, box_of((0, 3)), ONE),)))


if __name__ == "__main__":
    unittest.main()

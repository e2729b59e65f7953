"""Promises [6.2] and [6.3]: bounds of values over boxes, and slopes."""

import itertools
import unittest
from fractions import Fraction

from helpers import Maker, around, box_of, iv, num, q, system_of, uni, value
from rootfast.bounds import bounds, centered, natural, slopes
from rootfast.boxes import box_middle, box_widths, corners, halves
from rootfast.intervals import has, is_interval, lies_within, meeting_of, multiple_of, power_of, product_of, sum_of
from rootfast.polynomials import derivative, moved

ZERO = iv(0, 0)


def slow_natural(p, box):
    total = ZERO
    for exponents, coefficient in p:
        part = iv(1, 1)
        for e, i in zip(exponents, box):
            part = product_of(part, power_of(i, e))
        total = sum_of(total, multiple_of(coefficient, part))
    return total


def slow_centered(p, box):
    middle = box_middle(box)
    a = value(p, [q(x) for x in middle])
    s = Fraction(0)
    for exponents, coefficient in moved(len(box), p, middle):
        if any(exponents):
            part = abs(q(coefficient))
            for e, width in zip(exponents, box_widths(box)):
                part *= (q(width) / 2) ** e
            s += part
    return iv(a - s, a + s)


class Bounds(unittest.TestCase):
    def check(self, p, box):
        first, second, both = natural(p, box), centered(p, box), bounds(p, box)
        self.assertEqual(first, slow_natural(p, box))
        self.assertEqual(second, slow_centered(p, box))
        self.assertEqual(both, meeting_of(first, second))
        self.assertIs(is_interval(both), True)
        for point in corners(box) + [box_middle(box)]:
            self.assertIs(has(both, num(value(p, [q(x) for x in point]))), True)

    def test_some(self):
        p = uni(0, -1, 1)
        box = box_of((0, 1))
        self.assertEqual([natural(p, box), centered(p, box), bounds(p, box)], [iv(-1, 1), iv(Fraction(-1, 2), 0), iv(Fraction(-1, 2), 0)])
        (xy,) = system_of(2, "x*y - x + 1/2")
        self.assertEqual(natural(xy, box_of((-1, 2), (-3, 1))), iv(Fraction(-15, 2), Fraction(9, 2)))

    def test_zero_and_constants(self):
        for n in (1, 2, 3, 4):
            box = box_of(*[(-1, 2)] * n)
            self.assertEqual([natural((), box), centered((), box), bounds((), box)], [ZERO] * 3)
            p = (((0,) * n, (-3, 7)),)
            self.assertEqual([natural(p, box), centered(p, box), bounds(p, box)], [iv(Fraction(-3, 7), Fraction(-3, 7))] * 3)

    def test_even_powers_over_zero(self):
        square = uni(0, 0, 1)
        self.assertEqual(natural(square, box_of((-1, 2))), iv(0, 4))
        self.assertEqual(natural(square, box_of((-3, 2))), iv(0, 9))
        self.assertEqual(natural(uni(0, 0, -1, 0, 2), box_of((-1, 1))), iv(-1, 2))
        self.assertEqual(centered(square, box_of((-1, 1))), iv(-1, 1))
        self.assertEqual(bounds(square, box_of((-1, 1))), iv(0, 1))
        (p,) = system_of(2, "x^2*y^2 - x*y^3")
        self.check(p, box_of((-1, 2), (-3, 1)))

    def test_widths_of_zero(self):
        maker = Maker(54)
        for n in (1, 2, 3, 4):
            p, point = maker.polynomial(n, 6, 4), maker.point(n)
            box = tuple((x, x) for x in point)
            exact = num(value(p, [q(x) for x in point]))
            self.assertEqual([natural(p, box), centered(p, box), bounds(p, box)], [(exact, exact)] * 3)
            self.check(p, (iv(-1, 2),) + box[1:])

    def test_many(self):
        maker = Maker(55)
        for n in (1, 2, 3, 4):
            for _ in range(25):
                self.check(maker.polynomial(n, 6, 4 if n < 4 else 3), maker.box(n))

    def test_boxes_within_others(self):
        maker = Maker(56)
        for n in (1, 2, 3):
            for _ in range(15):
                p, box = maker.polynomial(n, 6, 4), maker.box(n)
                wide = bounds(p, box)
                for k in range(n):
                    for half in halves(box, k):
                        self.assertIs(lies_within(bounds(p, half), wide), True)
                        self.assertIs(lies_within(bounds(p, halves(half, 0)[1]), bounds(p, half)), True)

    def test_values_in_between(self):
        maker = Maker(57)
        for _ in range(20):
            p, box = maker.polynomial(2, 6, 4), maker.box(2)
            both = bounds(p, box)
            for parts in itertools.product((Fraction(1, 3), Fraction(6, 7)), repeat=2):
                point = [q(low) + (q(high) - q(low)) * t for (low, high), t in zip(box, parts)]
                self.assertIs(has(both, num(value(p, point))), True)

    def test_both_are_needed(self):
        (p,) = system_of(1, "x^2 - 2*x")
        self.assertIs(lies_within(natural(p, box_of((0, 1))), centered(p, box_of((0, 1)))), False)
        (p,) = system_of(1, "x^2")
        self.assertIs(lies_within(centered(p, box_of((-1, 1))), natural(p, box_of((-1, 1)))), False)


class Slopes(unittest.TestCase):
    def test_some(self):
        system = system_of(2, "x^2 + y^2 - 2", "x - y")
        self.assertEqual(
            slopes(system, box_of((0, 1), (-1, 3))), ((iv(0, 2), iv(-2, 6)), (iv(1, 1), iv(-1, -1))),
        )

    def test_many(self):
        maker = Maker(58)
        for n in (1, 2, 3, 4):
            for many in (1, n, 5):
                system, box = tuple(maker.polynomial(n, 5, 3) for _ in range(many)), maker.box(n)
                found = slopes(system, box)
                self.assertIs(type(found), tuple)
                self.assertEqual(found, tuple(tuple(bounds(derivative(p, k), box) for k in range(n)) for p in system))

    def test_no_slope(self):
        self.assertEqual(slopes(((), uni(5)), around([0], 1)), ((ZERO,), (ZERO,)))


if __name__ == "__main__":
    unittest.main()

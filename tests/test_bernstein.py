"""Promise [4.6]: Bernstein coefficients."""

import math
import unittest
from fractions import Fraction

from helpers import Maker, from_factors, num, q, uni, value
from rootfast.bernstein import bernstein, halved
from rootfast.combs import variations
from rootfast.numbers import is_number


def sum_form(coefficients, x):
    """The value of the sum that the document tells, at a fraction."""
    d = len(coefficients) - 1
    return sum(q(b) * math.comb(d, i) * x ** i * (1 - x) ** (d - i) for i, b in enumerate(coefficients))


def sign_changes(coefficients):
    signs = [b[0] > 0 for b in coefficients if b[0] != 0]
    return sum(1 for first, second in zip(signs, signs[1:]) if first != second)


class Coefficients(unittest.TestCase):
    def check(self, p, low, high):
        found = bernstein(p, low, high)
        a, b = q(low), q(high)
        self.assertIs(type(found), tuple)
        self.assertEqual(len(found), p[-1][0][0] + 1)
        self.assertTrue(all(is_number(x) for x in found))
        # A polynomial of degree d is told by d + 1 values.
        for k in range(-1, len(found) + 1):
            x = Fraction(k, 3)
            self.assertEqual(sum_form(found, x), value(p, [a + (b - a) * x]))
        self.assertEqual(q(found[0]), value(p, [a]))
        self.assertEqual(q(found[-1]), value(p, [b]))
        for k in range(9):
            x = a + (b - a) * Fraction(k, 8)
            self.assertTrue(min(q(y) for y in found) <= value(p, [x]) <= max(q(y) for y in found))
        self.assertEqual(sign_changes(found), variations(p, low, high))
        return found

    def test_some(self):
        self.assertEqual(self.check(uni(0, 0, 1), num(0), num(1)), (num(0), num(0), num(1)))
        self.assertEqual(self.check(uni(-2, 0, 1), num(-2), num(2)), (num(2), num(-6), num(2)))
        self.assertEqual(self.check(uni(0, 0, 0, 0, 1), num(-1), num(1)), tuple(num(x) for x in (1, -1, 1, -1, 1)))

    def test_constants_and_degree_one(self):
        for c in (1, -7, Fraction(3, 4)):
            self.assertEqual(self.check(uni(c), num(-1, 2), num(5)), (num(c),))
        self.assertEqual(self.check(uni(1, 2), num(-1), num(3)), (num(-1), num(7)))
        self.assertEqual(self.check(uni(0, 1), num(1, 3), num(1, 2)), (num(1, 3), num(1, 2)))

    def test_roots_at_the_ends_and_multiple_ones(self):
        self.check(from_factors([0, 1], [-1, 1]), num(0), num(1))
        self.check(from_factors([-1, 2], [-1, 2], [-1, 2]), num(0), num(1))
        self.check(from_factors([0, 1], [0, 1], [-3, 1]), num(0), num(3))

    def test_many(self):
        maker = Maker(40)
        for _ in range(60):
            p, (low, high) = maker.polynomial(1, 6, 8), maker.interval()
            if p and low != high:
                self.check(p, low, high)


class Halved(unittest.TestCase):
    def test_some(self):
        self.assertEqual(halved(((5, 3),)), (((5, 3),), ((5, 3),)))
        self.assertEqual(halved((num(1), num(2))), ((num(1), num(3, 2)), (num(3, 2), num(2))))
        self.assertEqual(halved((num(0), num(0), num(1))), ((num(0), num(0), num(1, 4)), (num(1, 4), num(1, 2), num(1))))

    def test_both_halves(self):
        maker = Maker(41)
        for _ in range(60):
            p, (low, high) = maker.polynomial(1, 6, 8), maker.interval()
            if p and low != high:
                middle = num((q(low) + q(high)) / 2)
                found = halved(bernstein(p, low, high))
                self.assertIs(type(found), tuple)
                self.assertEqual(found, (bernstein(p, low, middle), bernstein(p, middle, high)))

    def test_against_the_words(self):
        maker = Maker(42)
        for many in range(1, 8):
            given = tuple(maker.number() for _ in range(many))
            rows = [[q(b) for b in given]]
            while len(rows[-1]) > 1:
                rows.append([(a + b) / 2 for a, b in zip(rows[-1], rows[-1][1:])])
            lower = tuple(num(rows[k][0]) for k in range(many))
            upper = tuple(num(rows[many - 1 - k][k]) for k in range(many))
            self.assertEqual(halved(given), (lower, upper))


if __name__ == "__main__":
    unittest.main()

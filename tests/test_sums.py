"""Promise [12.4]: sums and products of roots."""

import unittest
from fractions import Fraction

from helpers import Maker, from_factors, iv, num, q, uni
from rootfast.roots import (
    compare_root, compare_roots, inverse_root, is_root, near, negative_root, root_of, roots_of, scaled_root, shifted_root,
)
from rootfast.sums import product_of_roots, sum_of_roots

ROOT_2 = roots_of(uni(-2, 0, 1))[1]
ROOT_3 = roots_of(uni(-3, 0, 1))[1]
ROOT_8 = roots_of(uni(-8, 0, 1))[1]
CUBE_2 = roots_of(uni(-2, 0, 0, 1))[0]
# 0 and others as a root of one polynomial, with intervals that have other numbers, too.
AROUND_0 = (uni(0, -1, 0, 1), iv(Fraction(-1, 2), Fraction(1, 3)))
ZERO_ALONE = root_of((0, 1))
REDUCIBLE = roots_of(from_factors([-2, 0, 1], [-1, 1]))


def combined_ends(first, second, product):
    if product:
        found = [a * b for a in first for b in second]
        return min(found), max(found)
    return first[0] + second[0], first[1] + second[1]


class Combining(unittest.TestCase):
    def combine(self, r, s):
        """Both results, which are looked at beside narrow intervals of the roots, and in both orders."""
        results = []
        for function, product in ((sum_of_roots, False), (product_of_roots, True)):
            t, u = function(r, s), function(s, r)
            self.assertIs(is_root(t), True)
            self.assertIs(is_root(u), True)
            self.assertEqual(compare_roots(t, u), 0)
            first, second = ([q(x) for x in near(root, 60)] for root in (r, s))
            low, high = combined_ends(first, second, product)
            self.assertGreaterEqual(compare_root(t, num(low)), 0)
            self.assertLessEqual(compare_root(t, num(high)), 0)
            results.append(t)
        return results

    def check(self, r, s, total, product):
        found = self.combine(r, s)
        for t, expected in zip(found, (total, product)):
            if type(expected) in (int, Fraction):
                self.assertEqual(compare_root(t, num(expected)), 0)
            else:
                self.assertEqual(compare_roots(t, expected), 0)

    def test_rational_ones(self):
        for a, b in ((0, 0), (0, 3), (1, -1), (Fraction(1, 2), Fraction(-2, 3)), (Fraction(7, 3), Fraction(7, 3)), (-1, -1)):
            self.check(root_of(num(a)), root_of(num(b)), a + b, a * b)

    def test_square_roots(self):
        self.check(ROOT_2, ROOT_2, ROOT_8, 2)
        self.check(ROOT_2, negative_root(ROOT_2), 0, -2)
        self.check(ROOT_2, ROOT_8, scaled_root(ROOT_2, (3, 1)), 4)
        self.check(negative_root(ROOT_2), ROOT_8, ROOT_2, -4)
        self.check(ROOT_2, ROOT_3, roots_of(uni(1, 0, -10, 0, 1))[3], roots_of(uni(-6, 0, 1))[1])
        self.check(ROOT_2, negative_root(ROOT_3), roots_of(uni(1, 0, -10, 0, 1))[1], roots_of(uni(-6, 0, 1))[0])

    def test_cube_roots(self):
        self.check(CUBE_2, CUBE_2, scaled_root(CUBE_2, (2, 1)), roots_of(uni(-4, 0, 0, 1))[0])
        self.check(CUBE_2, roots_of(uni(-4, 0, 0, 1))[0], roots_of(uni(-6, -6, 0, 1))[0], 2)
        self.check(CUBE_2, negative_root(CUBE_2), 0, negative_root(roots_of(uni(-4, 0, 0, 1))[0]))

    def test_0(self):
        for r in (ROOT_2, negative_root(ROOT_3), CUBE_2, root_of((5, 7)), AROUND_0, ZERO_ALONE):
            for zero in (AROUND_0, ZERO_ALONE):
                self.check(r, zero, r, 0)

    def test_rational_and_other_ones(self):
        self.check(ROOT_2, root_of((-3, 2)), shifted_root(ROOT_2, (-3, 2)), scaled_root(ROOT_2, (-3, 2)))
        # Rational numbers as roots of polynomials with others, in wide intervals.
        one = (REDUCIBLE[1][0], iv(Fraction(1, 2), Fraction(5, 4)))
        self.assertIs(is_root(one), True)
        self.check(one, one, 2, 1)
        self.check(one, ROOT_2, shifted_root(ROOT_2, (1, 1)), ROOT_2)
        self.check(one, root_of((-1, 1)), 0, -1)

    def test_reducible_polynomials(self):
        low, one, high = REDUCIBLE
        self.check(low, high, 0, -2)
        self.check(one, high, shifted_root(ROOT_2, (1, 1)), ROOT_2)
        self.check(low, one, shifted_root(negative_root(ROOT_2), (1, 1)), low)
        self.check(high, high, ROOT_8, 2)
        p = from_factors([0, 1], [-3, 0, 1])
        for r in roots_of(p):
            for s in REDUCIBLE:
                self.combine(r, s)

    def test_inverses_and_shifts(self):
        for r in (ROOT_2, CUBE_2, REDUCIBLE[0], roots_of(uni(1, -3, 0, 1))[1]):
            self.check(r, inverse_root(r), sum_of_roots(inverse_root(r), r), 1)
            self.check(r, shifted_root(negative_root(r), (1, 3)), Fraction(1, 3), product_of_roots(
                shifted_root(negative_root(r), (1, 3)), r))

    def test_wide_intervals(self):
        wide = (uni(-2, 0, 1), iv(-1, 1000))
        self.assertIs(is_root(wide), True)
        self.check(wide, wide, ROOT_8, 2)
        # An end that no root may have: 0 is the product of other roots.
        first = (from_factors([-2, 0, 1], [0, 1]), iv(1, 5))
        self.check(first, (uni(-3, 0, 1), iv(0, 9)), roots_of(uni(1, 0, -10, 0, 1))[3], roots_of(uni(-6, 0, 1))[1])

    def test_against_intervals(self):
        maker = Maker(121)
        count = 0
        while count < 120:
            p, r = (maker.polynomial(1, 4, 3) for _ in range(2))
            if len(p) < 1 or len(r) < 1 or p[-1][0] == (0,) or r[-1][0] == (0,):
                continue
            for s in roots_of(p):
                for t in roots_of(r):
                    self.combine(s, t)
                    count += 1


if __name__ == "__main__":
    unittest.main()

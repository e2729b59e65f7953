"""Promise [4.1]: division, greatest common divisors and parts."""

import unittest
from fractions import Fraction

from helpers import Maker, coefficients_of, from_factors, uni
from rootfast.polynomials import added, degree, is_polynomial, multiplied, raised, scaled
from rootfast.single import common_divisor, divided, parts, simple_part

ONE = uni(1)


def told_divisor(p, r):
    """Euclid's way, with fractions."""
    first, second = coefficients_of(p), coefficients_of(r)
    while second:
        while len(first) >= len(second):
            factor = first[-1] / second[-1]
            gap = len(first) - len(second)
            first = [c - (factor * second[k - gap] if k >= gap else 0) for k, c in enumerate(first)]
            while first and first[-1] == 0:
                first.pop()
        first, second = second, first
    return uni(*[c / first[-1] for c in first])


class Division(unittest.TestCase):
    def test_some(self):
        self.assertEqual(divided(uni(-1, 0, 1), uni(-1, 1)), (uni(1, 1), ()))
        self.assertEqual(divided(uni(1, 0, 1), uni(-1, 1)), (uni(1, 1), uni(2)))
        self.assertEqual(divided(uni(0, 0, 1), uni(1, 2)), (uni(Fraction(-1, 4), Fraction(1, 2)), uni(Fraction(1, 4))))
        self.assertEqual(divided(uni(3, -6), uni(Fraction(-3, 2))), (uni(-2, 4), ()))

    def test_zero_and_smaller_degrees(self):
        for r in (uni(5), uni(1, 2), uni(0, 0, Fraction(1, 3))):
            self.assertEqual(divided((), r), ((), ()))
        self.assertEqual(divided(uni(1, 2), uni(0, 0, 3)), ((), uni(1, 2)))
        self.assertEqual(divided(uni(Fraction(7, 2)), uni(0, 3)), ((), uni(Fraction(7, 2))))
        self.assertEqual(divided(uni(2), uni(3)), (uni(Fraction(2, 3)), ()))

    def test_what_division_is(self):
        maker = Maker(13)
        for _ in range(200):
            p, r = maker.polynomial(1, 6, 9), maker.polynomial(1, 4, 5)
            if not r:
                continue
            found = divided(p, r)
            self.assertIs(type(found), tuple)
            quotient, rest = found
            self.assertTrue(is_polynomial(1, quotient) and is_polynomial(1, rest))
            self.assertEqual(added(multiplied(r, quotient), rest), p)
            self.assertLess(degree(rest), degree(r))


class Divisors(unittest.TestCase):
    def test_some(self):
        self.assertEqual(common_divisor(uni(-1, 0, 1), uni(1, 2, 1)), uni(1, 1))
        self.assertEqual(common_divisor(uni(-1, 0, 1), uni(2, 1)), ONE)
        self.assertEqual(common_divisor(uni(4), uni(6)), ONE)
        self.assertEqual(common_divisor(uni(4), uni(1, 1)), ONE)
        self.assertEqual(common_divisor(uni(0, 0, 6), uni(0, 4)), uni(0, 1))

    def test_zero(self):
        for p, monic in ((uni(2, -4), uni(Fraction(-1, 2), 1)), (uni(-3), ONE), (uni(0, 0, -5), uni(0, 0, 1))):
            self.assertEqual(common_divisor(p, ()), monic)
            self.assertEqual(common_divisor((), p), monic)

    def test_against_another_way(self):
        maker = Maker(14)
        for _ in range(150):
            p, r, common = maker.polynomial(1, 4, 5), maker.polynomial(1, 4, 4), maker.polynomial(1, 3, 4)
            if p and r and common:
                p, r = multiplied(p, common), multiplied(r, common)
                self.assertEqual(common_divisor(p, r), told_divisor(p, r))

    def test_divisors_with_greater_coefficients(self):
        # (x^105 - 1)'s factors are known for coefficients that are greater than those of the product.
        p = uni(*[-1] + [0] * 104 + [1])
        r = uni(*[-1] + [0] * 34 + [1])
        self.assertEqual(common_divisor(p, r), r)
        f = from_factors([1, 1], [1, 1], [1, 1], [1, 1], [-1, 1], [-1, 1], [-1, 1], [-1, 1])
        r = from_factors([1, 1], [1, 1], [1, 1], [1, 1], [3, 1])
        self.assertEqual(common_divisor(f, r), raised(1, uni(1, 1), 4))

    def test_values_with_common_divisors(self):
        # The cofactors x and x + k have values with a common divisor at many points.
        for k in (2, 6, 30, 2 ** 40, 3 ** 60, 10 ** 50):
            self.assertEqual(common_divisor(uni(0, 1), uni(k, 1)), ONE)
            common = uni(7, 3)
            first, second = multiplied(uni(0, 1), common), multiplied(uni(k, 1), common)
            self.assertEqual(common_divisor(first, second), uni(Fraction(7, 3), 1))


class Parts(unittest.TestCase):
    def test_some(self):
        p = uni(-2, 5, -4, 1)
        self.assertEqual(parts(p), [(1, uni(-2, 1)), (2, uni(-1, 1))])
        self.assertEqual(simple_part(p), uni(2, -3, 1))

    def test_constants(self):
        for c in (1, -1, 7, Fraction(-2, 3)):
            self.assertEqual(parts(uni(c)), [])
            self.assertEqual(simple_part(uni(c)), ONE)

    def test_powers(self):
        self.assertEqual(parts(uni(0, 0, 0, -3)), [(3, uni(0, 1))])
        self.assertEqual(parts(uni(4, 2)), [(1, uni(2, 1))])
        self.assertEqual(parts(raised(1, uni(1, 0, 1), 5)), [(5, uni(1, 0, 1))])
        self.assertEqual(simple_part(scaled(raised(1, uni(1, 0, 2), 3), (-5, 1))), uni(Fraction(1, 2), 0, 1))

    def test_gaps_between_multiplicities(self):
        p = from_factors(*[[-1, 1]] * 4, *[[2, 1]] * 2, [1, 0, 1], [1, 0, 1], [Fraction(1, 3), 5])
        expected = [(1, uni(Fraction(1, 15), 1)), (2, from_factors([2, 1], [1, 0, 1])), (4, uni(-1, 1))]
        self.assertEqual(parts(p), expected)
        self.assertEqual(parts(scaled(p, (-7, 3))), expected)

    def test_what_parts_are(self):
        maker = Maker(15)
        for _ in range(40):
            p = ONE
            for k in range(1, 4):
                factor = maker.polynomial(1, 3, 2)
                p = multiplied(p, raised(1, factor, k)) if factor else p
            found = parts(p)
            self.assertEqual([k for k, r in found], sorted({k for k, r in found}))
            together, simple = uni(coefficients_of(p)[-1]), ONE
            for k, r in found:
                self.assertGreaterEqual(degree(r), 1)
                self.assertEqual(r[-1][1], (1, 1))
                self.assertEqual(simple_part(r), r)
                self.assertEqual(told_divisor(simple, r), ONE)
                together, simple = multiplied(together, raised(1, r, k)), multiplied(simple, r)
            self.assertEqual(together, p)
            self.assertEqual(simple_part(p), simple)


if __name__ == "__main__":
    unittest.main()

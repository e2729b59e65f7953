"""Promises [5.1], [5.2] and [5.3]: real roots as numbers."""

import itertools
import math
import unittest
from fractions import Fraction

from helpers import Maker, from_factors, iv, num, q, strange_values, uni, value
from rootfast.errors import BadNumber
from rootfast.polynomials import multiplied, raised
from rootfast.real import count_roots
from rootfast.roots import (
    compare_root, compare_roots, floor_of, inverse_root, is_root, near, negative_root, root_of, roots_of,
    scaled_root, shifted_root, sign_at,
)
from rootfast.single import simple_part

TWO = uni(-2, 0, 1)
LOW, HIGH = iv(-2, -1), iv(1, 2)
ROOT_TWO = (TWO, HIGH)


def square_root(x, sign=1):
    """The root that is the square root of an integer that is no square, or its negative."""
    below = math.isqrt(x)
    return (uni(-x, 0, 1), iv(below, below + 1) if sign > 0 else iv(-below - 1, -below))


def key(sign, x):
    """A fraction as near to a square root, or its negative, as any test needs."""
    return sign * Fraction(math.isqrt(x * 10 ** 80), 10 ** 40)


class Telling(unittest.TestCase):
    def test_roots(self):
        for r in (
            (TWO, HIGH), (TWO, LOW), (TWO, iv(0, 100)), (uni(0, 1), iv(0, 0)), (uni(0, 1), iv(-1, 1)),
            (uni(Fraction(-1, 3), 1), iv(Fraction(1, 3), Fraction(1, 3))), (uni(-1, -1, 0, 0, 0, 1), iv(1, 2)),
            (uni(0, -1, 0, 1), iv(Fraction(-1, 2), Fraction(1, 2))), (uni(0, -1, 0, 1), iv(1, 1)),
            (uni(0, 1, 0, 1), iv(-5, 5)), (multiplied(TWO, uni(1, 0, 1)), HIGH),
        ):
            self.assertIs(is_root(r), True, r)

    def test_wrong_polynomials(self):
        for r in (
            (uni(-4, 0, 2), HIGH), (uni(2, 0, -1), HIGH), ((), HIGH), (uni(1), HIGH), (uni(5), HIGH), (raised(1, TWO, 2), HIGH),
            (uni(0, 0, 1), iv(-1, 1)), (uni(0, 0, 1), iv(0, 0)), (multiplied(TWO, uni(1, -2, 1)), LOW),
            (multiplied(TWO, raised(1, uni(1, 0, 1), 2)), HIGH), ((((2,), (1, 1)), ((0,), (-2, 1))), HIGH),
            ((((0, 0), (-2, 1)), ((2, 0), (1, 1))), HIGH), ([((0,), (-2, 1)), ((2,), (1, 1))], HIGH),
            ((((0,), (-2, 1)), ((2,), (True, 1))), HIGH), ((((0,), (-2, 1)), ((2,), (2, 2))), HIGH),
        ):
            self.assertIs(is_root(r), False, r)

    def test_wrong_intervals(self):
        for r in (
            (TWO, iv(0, 1)), (TWO, iv(-2, 2)), (TWO, iv(2, 3)), (TWO, iv(1, 1)), (TWO, ((2, 1), (1, 1))), (uni(1, 0, 1), iv(-1, 1)),
            (uni(0, -1, 0, 1), iv(-1, 1)), (uni(0, -1, 0, 1), iv(0, Fraction(1, 2))), (uni(0, -1, 0, 1), iv(Fraction(1, 2), 1)),
            (uni(0, -1, 0, 1), iv(0, 1)), (uni(0, -1, 0, 1), iv(Fraction(-1, 2), 1)), (uni(0, -1, 0, 1), iv(-1, Fraction(1, 2))),
            (uni(0, 1), iv(0, 1)), (uni(0, 1), iv(-1, 0)), (TWO, [(1, 1), (2, 1)]), (TWO, ((1, 1),)),
            (TWO, ((True, 1), (2, 1))), (TWO, (1, 2)), (TWO, None),
        ):
            self.assertIs(is_root(r), False, r)

    def test_wrong_forms(self):
        for r in ([TWO, HIGH], (TWO,), (TWO, HIGH, HIGH), (HIGH, TWO), TWO, HIGH, (), "root", ("root", ROOT_TWO), (None, None)):
            self.assertIs(is_root(r), False, r)
        for strange in strange_values():
            for r in (strange, (strange, HIGH), (TWO, strange), (strange, strange)):
                self.assertIs(is_root(r), False)


class Making(unittest.TestCase):
    def test_root_of(self):
        for x in (0, 1, -3, Fraction(5, 7), Fraction(-1, 10 ** 20)):
            self.assertEqual(root_of(num(x)), (uni(-x, 1), iv(x, x)))
            self.assertIs(is_root(root_of(num(x))), True)
        self.assertEqual(root_of((0, 1)), ((((1,), (1, 1)),), ((0, 1), (0, 1))))

    def check(self, p, many):
        found = roots_of(p)
        self.assertIs(type(found), list)
        self.assertEqual(len(found), many)
        for r in found:
            self.assertIs(is_root(r), True)
            self.assertEqual(r[0], simple_part(p))
        for first, second in zip(found, found[1:]):
            self.assertEqual(compare_roots(first, second), -1)
        return found

    def test_roots_of(self):
        self.check(TWO, 2)
        self.check(uni(-6, 0, 3), 2)
        self.check(uni(1, 0, 1), 0)
        self.check(uni(7), 0)
        self.check(uni(0, 3), 1)
        self.check(multiplied(raised(1, TWO, 3), uni(0, 0, -5)), 3)
        self.check(from_factors(*[[-k, 1] for k in range(-3, 4)]), 7)
        for r, x in zip(self.check(from_factors([-1, 3], [-1, 2], [-1, 2]), 2), (Fraction(1, 3), Fraction(1, 2))):
            self.assertEqual(compare_root(r, num(x)), 0)

    def test_many_roots_of(self):
        maker = Maker(46)
        for _ in range(40):
            p = maker.polynomial(1, 5, 7)
            if p:
                self.check(p, count_roots(p, num(-10 ** 9), num(10 ** 9)))


class Comparing(unittest.TestCase):
    def test_roots_with_roots(self):
        told = [(key(s, x), square_root(x, s)) for x in (2, 3, 5, 6, 7, 8) for s in (1, -1)]
        told += [(Fraction(x), root_of(num(x))) for x in (-2, -1, 0, 1, Fraction(3, 2), Fraction(14142135, 10 ** 7), 3)]
        for (x, r), (y, s) in itertools.product(told, told):
            found = compare_roots(r, s)
            self.assertIs(type(found), int)
            self.assertEqual(found, (x > y) - (x < y))

    def test_equal_ones(self):
        others = [
            (TWO, iv(0, 10)), (TWO, iv(Fraction(7, 5), Fraction(3, 2))), (multiplied(TWO, uni(-1, 1)), iv(Fraction(5, 4), 2)),
            (multiplied(TWO, uni(1, 0, 1)), HIGH), (uni(-8, 0, 0, 0, 0, 0, 1), iv(1, 5)), (multiplied(TWO, uni(-3, 0, 1)), iv(1, Fraction(3, 2))),
        ]
        for r, s in itertools.product(others, others):
            self.assertIs(is_root(r), True)
            self.assertEqual(compare_roots(r, s), 0)
        cubic = (uni(0, -1, 0, 1), iv(Fraction(1, 2), 3))
        self.assertEqual(compare_roots(cubic, root_of(num(1))), 0)
        self.assertEqual(compare_roots(root_of(num(1)), cubic), 0)
        self.assertEqual(compare_roots(root_of(num(1)), root_of(num(1))), 0)
        self.assertEqual(compare_roots(cubic, (uni(-1, 1), iv(0, 2))), 0)

    def test_near_ones(self):
        for gap in (Fraction(1, 10 ** 6), Fraction(1, 10 ** 30), Fraction(1, 2 ** 300)):
            s = (uni(-2 - gap, 0, 1), HIGH)
            self.assertEqual([compare_roots(ROOT_TWO, s), compare_roots(s, ROOT_TWO)], [-1, 1])
            p = multiplied(TWO, s[0])
            found = [r for r in roots_of(p) if compare_root(r, num(0)) > 0]
            self.assertEqual([compare_roots(r, ROOT_TWO) for r in found], [0, 1])
            self.assertEqual([compare_roots(s, r) for r in found], [1, 0])
            self.assertEqual(compare_root(ROOT_TWO, num(key(1, 2) + gap / 2)), -1 if gap > Fraction(1, 10 ** 35) else 1)

    def test_touching_intervals(self):
        r = (uni(-1, 0, 2, 0, 1), iv(0, 1))
        s = (multiplied(TWO, uni(-7, 0, 1)), iv(1, 2))
        self.assertEqual([compare_roots(r, s), compare_roots(s, r)], [-1, 1])
        self.assertEqual([compare_roots(r, root_of(num(1))), compare_roots(root_of(num(1)), s)], [-1, -1])

    def test_roots_with_numbers(self):
        for x in (-5, 0, 1, Fraction(7, 5), Fraction(141421356, 10 ** 8), Fraction(141421357, 10 ** 8), Fraction(3, 2), 2, 9):
            expected = 1 if x <= 0 or x * x < 2 else -1
            found = compare_root(ROOT_TWO, num(x))
            self.assertIs(type(found), int)
            self.assertEqual(found, expected)
        r = (uni(0, -1, 0, 1), iv(Fraction(1, 2), 3))
        self.assertEqual([compare_root(r, num(x)) for x in (-1, 0, Fraction(1, 2), 1, 2, 3, 4)], [1, 1, 1, 0, -1, -1, -1])
        self.assertEqual([compare_root(root_of(num(1)), num(x)) for x in (0, 1, 2)], [1, 0, -1])


class Signs(unittest.TestCase):
    def test_some(self):
        low, high = roots_of(TWO)
        self.assertEqual([sign_at(TWO, low), sign_at(TWO, high)], [0, 0])
        self.assertEqual([sign_at(uni(0, 1), low), sign_at(uni(0, 1), high)], [-1, 1])
        self.assertEqual([sign_at(uni(Fraction(-3, 2), 1), high), sign_at(uni(Fraction(-7, 5), 1), high)], [-1, 1])

    def test_zero_constants_and_multiples(self):
        for r in (ROOT_TWO, root_of(num(0)), root_of(num(3, 7)), square_root(7, -1)):
            self.assertEqual([sign_at((), r), sign_at(uni(5), r), sign_at(uni(Fraction(-1, 9)), r)], [0, 1, -1])
            for factor in (uni(3), uni(-1, 4), uni(1, 0, 0, 1), r[0]):
                self.assertEqual(sign_at(multiplied(r[0], factor), r), 0)
                self.assertIs(type(sign_at(multiplied(r[0], factor), r)), int)

    def test_common_roots_beside_it(self):
        p = multiplied(TWO, uni(-3, 0, 1))
        low = (p, iv(1, Fraction(3, 2)))
        self.assertEqual([sign_at(TWO, low), sign_at(uni(-3, 0, 1), low), sign_at(p, low)], [0, -1, 0])
        self.assertEqual(sign_at(raised(1, uni(-3, 0, 1), 2), low), 1)

    def test_near_zero(self):
        for gap in (Fraction(1, 10 ** 9), Fraction(1, 2 ** 200)):
            self.assertEqual(sign_at(uni(-2 - gap, 0, 1), ROOT_TWO), -1)
            self.assertEqual(sign_at(uni(-2 + gap, 0, 1), ROOT_TWO), 1)
            touching = raised(1, uni(-2 - gap, 0, 1), 2)
            self.assertEqual(sign_at(touching, ROOT_TWO), 1)
            self.assertEqual(sign_at(from_factors([2 + gap * gap, 0, -1]), ROOT_TWO), 1)

    def test_numbers(self):
        maker = Maker(47)
        for _ in range(40):
            p, x = maker.polynomial(1, 4, 5), maker.number()
            y = value(p, [q(x)])
            self.assertEqual(sign_at(p, root_of(x)), (y > 0) - (y < 0))
            wide = (root_of(x)[0], iv(q(x) - 2, q(x) + 1))
            self.assertEqual(sign_at(p, wide), (y > 0) - (y < 0))

    def test_square_roots(self):
        maker = Maker(48)
        for _ in range(60):
            p, x, sign = maker.polynomial(1, 5, 6), maker.random.choice((2, 3, 5, 7)), maker.random.choice((1, -1))
            # The value at a square root is a + b times it.
            a = sum(q(c) * x ** (e // 2) for (e,), c in p if e % 2 == 0)
            b = sign * sum(q(c) * x ** (e // 2) for (e,), c in p if e % 2 == 1)
            total = a + b * key(1, x)
            expected = 0 if a == b == 0 else (1 if total > 0 else -1)
            self.assertEqual(sign_at(p, square_root(x, sign)), expected)


class Floors(unittest.TestCase):
    def test_numbers(self):
        for x in (0, 1, -1, 7, -7, Fraction(1, 2), Fraction(-1, 2), Fraction(-7, 3), Fraction(99, 10), 10 ** 20, Fraction(-1, 10 ** 20)):
            for r in (root_of(num(x)), (root_of(num(x))[0], iv(x - 3, x + Fraction(1, 2)))):
                self.assertEqual(floor_of(r), math.floor(x))
                self.assertIs(type(floor_of(r)), int)

    def test_irrational_ones(self):
        for x in (2, 3, 5, 8, 15, 24, 35, 10 ** 12 + 1, 10 ** 12 - 1):
            self.assertEqual(floor_of(square_root(x)), math.isqrt(x))
            self.assertEqual(floor_of(square_root(x, -1)), -math.isqrt(x) - 1)
            self.assertEqual(floor_of((uni(-x, 0, 1), iv(0, 10 ** 9))), math.isqrt(x))

    def test_right_below_and_above_an_integer(self):
        for gap in (Fraction(1, 10 ** 12), Fraction(1, 2 ** 150)):
            self.assertEqual(floor_of((uni(-4 + gap, 0, 1), iv(1, 3))), 1)
            self.assertEqual(floor_of((uni(-4 - gap, 0, 1), iv(1, 3))), 2)
            self.assertEqual(floor_of((uni(-4 + gap, 0, 1), iv(-3, -1))), -2)
            self.assertEqual(floor_of((uni(-4 - gap, 0, 1), iv(-3, -1))), -3)

    def test_integers_in_wide_intervals(self):
        p = multiplied(TWO, uni(-3, 1))
        for low, high in ((2, 4), (Fraction(3, 2), 100), (Fraction(5, 2), Fraction(7, 2)), (Fraction(29, 10), Fraction(39, 10))):
            self.assertEqual(floor_of((p, iv(low, high))), 3)


class Near(unittest.TestCase):
    def check(self, r, bits):
        low, high = near(r, bits)
        self.assertLessEqual(q(high) - q(low), Fraction(1, 2 ** bits))
        self.assertGreaterEqual(q(high), q(low))
        self.assertGreaterEqual(compare_root(r, low), 0)
        self.assertLessEqual(compare_root(r, high), 0)

    def test_some(self):
        roots = [
            ROOT_TWO, (TWO, iv(0, 1000)), (TWO, iv(-77, 0)), root_of(num(1, 3)), root_of(num(0)), (uni(-1, 3), iv(0, 9)),
            (uni(Fraction(-1, 3), 1), iv(-1, 9)), (uni(0, 1), iv(-3, 5)), (uni(0, -1, 0, 1), iv(Fraction(1, 2), 3)),
        ]
        for r, bits in itertools.product(roots, (0, 1, 5, 40, 100)):
            self.check(r, bits)


class Moving(unittest.TestCase):
    def check(self, r, x, bits=60):
        """A root as its words tell, near a fraction."""
        self.assertIs(is_root(r), True, r)
        low, high = near(r, bits)
        self.assertTrue(q(low) - Fraction(1, 10 ** 15) <= x <= q(high) + Fraction(1, 10 ** 15))

    some = [(key(s, x), square_root(x, s)) for x in (2, 7) for s in (1, -1)] + [
        (Fraction(x), root_of(num(x))) for x in (0, 1, Fraction(-5, 7))
    ] + [
        (Fraction(0), (uni(0, -1, 0, 1), iv(Fraction(-1, 2), Fraction(1, 3)))),
        (Fraction(1), (uni(0, -1, 0, 1), iv(Fraction(1, 2), 3))),
        (key(1, 3), (multiplied(uni(-3, 0, 1), uni(0, 1)), iv(1, 100))),
        (Fraction(1, 3), (multiplied(uni(Fraction(-1, 3), 1), uni(-3, 0, 1)), iv(-1, 1))),
    ]

    def test_negative(self):
        for x, r in self.some:
            self.check(negative_root(r), -x)
            self.assertEqual(compare_roots(negative_root(negative_root(r)), r), 0)

    def test_shifted(self):
        for (x, r), by in itertools.product(self.some, (0, 3, Fraction(-2, 7))):
            moved = shifted_root(r, num(by))
            self.check(moved, x + by)
            self.assertEqual(compare_roots(shifted_root(moved, num(-by)), r), 0)
        self.assertEqual(compare_roots(shifted_root(root_of(num(1, 2)), num(1, 3)), root_of(num(5, 6))), 0)

    def test_scaled(self):
        for (x, r), by in itertools.product(self.some, (1, -1, 6, Fraction(-2, 7))):
            grown = scaled_root(r, num(by))
            self.check(grown, x * by)
            self.assertEqual(compare_roots(scaled_root(grown, num(1 / Fraction(by))), r), 0)
        self.assertEqual(compare_roots(scaled_root(root_of(num(1, 2)), num(-1, 3)), root_of(num(-1, 6))), 0)

    def test_inverse(self):
        for x, r in self.some:
            if x == 0:
                with self.assertRaises(BadNumber):
                    inverse_root(r)
            else:
                self.check(inverse_root(r), 1 / x)
                self.assertEqual(compare_roots(inverse_root(inverse_root(r)), r), 0)

    def test_inverse_of_an_interval_with_zero(self):
        for low, high in ((-1, 3), (0, 2), (-1, 2), (Fraction(-7, 5), 10 ** 6)):
            self.check(inverse_root((TWO, iv(low, high))), 1 / key(1, 2))
            self.check(inverse_root((TWO, iv(-high, -low))), -1 / key(1, 2))
        tiny = (uni(Fraction(-2, 10 ** 30), 0, 1), iv(0, 1))
        found = inverse_root(tiny)
        self.assertIs(is_root(found), True)
        self.assertEqual(floor_of(found), math.isqrt(10 ** 30 // 2))

    def test_inverse_of_zero(self):
        for r in (root_of((0, 1)), (uni(0, 1), iv(-1, 1)), (uni(0, -2, 0, 1), iv(-1, 1))):
            with self.assertRaises(BadNumber):
                inverse_root(r)

    def test_inverse_where_zero_is_another_root(self):
        p = multiplied(TWO, uni(0, 1))
        found = inverse_root((p, HIGH))
        self.check(found, 1 / key(1, 2))
        self.assertEqual(compare_roots(found, (uni(Fraction(-1, 2), 0, 1), iv(0, 1))), 0)

    def test_kinds(self):
        for r in (negative_root(ROOT_TWO), shifted_root(ROOT_TWO, num(1)), scaled_root(ROOT_TWO, num(3)), inverse_root(ROOT_TWO)):
            self.assertEqual((type(r), len(r), type(r[1])), (tuple, 2, tuple))


if __name__ == "__main__":
    unittest.main()

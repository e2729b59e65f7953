"""Promises [4.4] and [4.5]: Descartes' rule, and combs."""

import math
import unittest
from fractions import Fraction

from helpers import Maker, coefficients_of, from_factors, nested, num, q, strange_values, uni
from rootfast.combs import check_comb, comb, comb_count, variations
from rootfast.polynomials import raised
from rootfast.real import count_roots

TWO = uni(-2, 0, 1)
NONE, ONE, REST = ("none",), ("one",), ("rest",)


def linear(root):
    return [-Fraction(root), 1]


def slow_variations(p, low, high):
    """By the words: the coefficients of (1 + x) ** d times p at (low + high * x) / (1 + x)."""
    given = coefficients_of(p)
    d = len(given) - 1
    total = [Fraction(0)] * (d + 1)
    for k, c in enumerate(given):
        # c * (low + high * x) ** k * (1 + x) ** (d - k)
        for i in range(k + 1):
            for j in range(d - k + 1):
                total[i + j] += c * math.comb(k, i) * low ** (k - i) * high ** i * math.comb(d - k, j)
    signs = [c > 0 for c in total if c != 0]
    return sum(1 for first, second in zip(signs, signs[1:]) if first != second)


def strict_count(p, low, high):
    """The number of different roots strictly between two numbers."""
    at_end = sum(c * q(high) ** k for k, c in enumerate(coefficients_of(p))) == 0
    return count_roots(p, low, high) - (1 if at_end else 0)


class Variations(unittest.TestCase):
    def test_some(self):
        self.assertEqual(variations(TWO, num(-2), num(2)), 2)
        self.assertEqual(variations(TWO, num(0), num(2)), 1)
        self.assertEqual(variations(TWO, num(0), num(1)), 0)
        self.assertEqual(variations(uni(1, 0, 1), num(-1), num(1)), 0)
        self.assertEqual(variations(uni(1, 0, 100), num(-1), num(1)), 2)
        self.assertEqual(variations(uni(1, 0, 1), num(1), num(5)), 0)

    def test_constants(self):
        for c in (1, Fraction(-2, 3)):
            self.assertEqual(variations(uni(c), num(-3), num(7)), 0)

    def test_roots_at_the_ends(self):
        p = from_factors(linear(0), linear(1), linear(2))
        self.assertEqual(variations(p, num(0), num(1)), 0)
        self.assertEqual(variations(p, num(0), num(2)), 1)
        self.assertEqual(variations(p, num(-1), num(0)), 0)
        self.assertEqual(variations(p, num(-1), num(1)), 1)
        self.assertEqual(variations(uni(0, 0, 1), num(0), num(1)), 0)

    def test_multiple_roots(self):
        self.assertEqual(variations(raised(1, uni(-1, 3), 4), num(0), num(1)), 4)
        self.assertEqual(variations(raised(1, TWO, 3), num(1), num(2)), 3)

    def test_by_the_words(self):
        maker = Maker(43)
        for _ in range(80):
            p, (low, high) = maker.polynomial(1, 6, 7), maker.interval()
            if p and low != high:
                found = variations(p, low, high)
                self.assertIs(type(found), int)
                self.assertEqual(found, slow_variations(p, q(low), q(high)))

    def test_what_they_tell(self):
        maker = Maker(44)
        for _ in range(60):
            roots = [q(maker.number(6, 4)) for _ in range(4)]
            p, (low, high) = from_factors(*map(linear, roots), [1, 1, 1]), maker.interval()
            if low != high:
                many = len([x for x in roots if q(low) < x < q(high)])
                found = variations(p, low, high)
                self.assertTrue(found >= many and (found - many) % 2 == 0)


class Checking(unittest.TestCase):
    def check(self, value, told, p=TWO, low=num(-2), high=num(2)):
        self.assertIs(check_comb(p, low, high, value), told, value)

    def test_right_ones(self):
        self.check(REST, True)
        self.check(("halve", ONE, ONE), True)
        self.check(("halve", REST, ONE), True)
        self.check(("halve", ONE, REST), True)
        self.check(("halve", ("halve", ONE, NONE), ("halve", NONE, ONE)), True)
        self.check(NONE, True, low=num(0), high=num(1))
        self.check(("halve", NONE, NONE), True, low=num(0), high=num(1))
        self.check(("halve", NONE, ("halve", NONE, ONE)), False, low=num(0), high=num(1))
        self.check(ONE, True, low=num(1), high=num(2))
        self.check(REST, True, low=num(0), high=num(1))

    def test_wrong_leaves(self):
        self.check(NONE, False)
        self.check(ONE, False)
        self.check(ONE, False, low=num(0), high=num(1))
        self.check(NONE, False, low=num(1), high=num(2))
        self.check(("halve", NONE, ONE), False)
        self.check(("halve", ONE, NONE), False)
        self.check(("halve", ("halve", NONE, ONE), ("halve", NONE, ONE)), False)
        self.check(("halve", ("halve", ONE, NONE), ("halve", ONE, NONE)), False)

    def test_wrong_forms(self):
        for value in (
            (), ("none", ()), ("one", 1), ("rest", None), ["rest"], "rest", ("halve",), ("halve", ONE), ("halve", ONE, ONE, ONE),
            ("halve", ONE, ["one"]), ("halve", [ONE, ONE]), ["halve", ONE, ONE], ("halve", ONE, None), ("halve", ONE, "one"),
            ("halve", 0, ONE, ONE), ("free", 0), ("single",), ("REST",), ("rests",), (b"rest",), (True,), (None,), (("rest",),),
            ("", ONE, ONE), (0, ONE, ONE), ("halve", True, ONE), ("rest", "rest", "rest"), ("one", ONE, ONE),
        ):
            self.check(value, False)
        for value in strange_values():
            self.check(value, False)
            self.check(("halve", ONE, value), False)
            self.check(("halve", value, ONE), False)
            self.check((value,), False)

    def test_deep_ones(self):
        self.check(nested(60, lambda v: ("halve", v, ONE)), False)
        self.check(nested(60, lambda v: ("halve", REST, v or REST)), True)
        self.check(nested(59, lambda v: ("halve", v or ("none",), NONE)), True, low=num(-1), high=num(0))


class Making(unittest.TestCase):
    def check(self, p, low, high, depth):
        found = comb(p, low, high, depth)
        self.assertIs(check_comb(p, low, high, found), True)
        self.words(p, q(low), q(high), depth, found)
        count = comb_count(p, low, high, found)
        if "rest" in str(found):
            self.assertIsNone(count)
        else:
            self.assertIs(type(count), int)
            self.assertEqual(count, strict_count(p, low, high))
        return found

    def words(self, p, low, high, depth, found):
        """Look whether a comb is just the one that the document tells."""
        many = slow_variations(p, low, high)
        if many < 2:
            self.assertEqual(found, (("none",), ("one",))[many])
        elif depth == 0:
            self.assertEqual(found, REST)
        else:
            self.assertEqual((found[0], len(found)), ("halve", 3))
            middle = (low + high) / 2
            self.words(p, low, middle, depth - 1, found[1])
            self.words(p, middle, high, depth - 1, found[2])

    def test_some(self):
        self.assertEqual(self.check(TWO, num(-2), num(2), 1), ("halve", ONE, ONE))
        self.assertEqual(self.check(TWO, num(-2), num(2), 40), ("halve", ONE, ONE))
        self.assertEqual(self.check(TWO, num(-2), num(2), 0), REST)
        self.assertEqual(self.check(TWO, num(0), num(2), 0), ONE)
        self.assertEqual(self.check(TWO, num(0), num(1), 0), NONE)
        self.assertEqual(self.check(uni(5), num(0), num(1), 7), NONE)

    def test_roots_at_points_of_halving(self):
        p = from_factors(linear(0), linear(Fraction(1, 2)), linear(-1))
        found = self.check(p, num(-2), num(2), 5)
        self.assertEqual(comb_count(p, num(-2), num(2), found), 3)
        p = from_factors(linear(-1), linear(0), linear(1))
        found = self.check(p, num(-2), num(2), 5)
        # 0 is the point of the first halving, and all four parts of the second one are left without roots.
        self.assertEqual(found, ("halve", ONE, ONE))
        self.assertEqual(comb_count(p, num(-2), num(2), found), 3)
        two_halvings = ("halve", ("halve", NONE, NONE), ("halve", NONE, NONE))
        self.assertIs(check_comb(p, num(-2), num(2), two_halvings), True)
        self.assertEqual(comb_count(p, num(-2), num(2), two_halvings), 3)

    def test_multiple_roots(self):
        p = raised(1, uni(-1, 2), 2)
        self.assertEqual(self.check(p, num(0), num(1), 1), ("halve", NONE, NONE))
        self.assertEqual(comb_count(p, num(0), num(1), ("halve", NONE, NONE)), 1)
        p = raised(1, uni(-1, 3), 2)
        found = self.check(p, num(0), num(1), 40)
        self.assertIsNone(comb_count(p, num(0), num(1), found))
        self.assertEqual(str(found).count("halve"), 40)

    def test_two_halvings(self):
        p = from_factors(linear(Fraction(1, 5)), linear(Fraction(2, 5)))
        self.assertEqual(self.check(p, num(0), num(1), 2), ("halve", ("halve", ONE, ONE), NONE))
        self.assertEqual(self.check(p, num(0), num(1), 1), ("halve", REST, NONE))

    def test_roots_at_the_ends(self):
        p = from_factors(linear(0), linear(1))
        self.assertEqual(comb_count(p, num(0), num(1), self.check(p, num(0), num(1), 5)), 0)
        self.assertEqual(comb_count(p, num(-1), num(2), self.check(p, num(-1), num(2), 5)), 2)

    def test_counts_of_other_right_combs(self):
        deep = ("halve", ("halve", ONE, NONE), ("halve", NONE, ONE))
        self.assertEqual(comb_count(TWO, num(-2), num(2), deep), 2)
        self.assertIsNone(comb_count(TWO, num(-2), num(2), ("halve", ONE, REST)))
        self.assertIsNone(comb_count(TWO, num(0), num(1), REST))
        self.assertEqual(comb_count(TWO, num(0), num(1), ("halve", NONE, ("halve", NONE, NONE))), 0)

    def test_many(self):
        maker = Maker(45)
        for _ in range(50):
            p, (low, high) = maker.polynomial(1, 6, 7), maker.interval()
            if p and low != high:
                self.check(p, low, high, maker.random.choice((0, 1, 3, 12)))


if __name__ == "__main__":
    unittest.main()

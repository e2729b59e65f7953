"""Promises [4.2] and [4.3]: Sturm's chain, counted, isolated and refined roots, bounds of roots."""

import unittest
from fractions import Fraction

from helpers import Maker, coefficients_of, from_factors, iv, num, q, uni, value
from rootfast.intervals import is_interval, lies_within
from rootfast.polynomials import derivative, multiplied, raised, scaled
from rootfast.real import chain, changes, count_roots, isolated, refined, root_bound
from rootfast.single import divided, parts, simple_part

TWO = uni(-2, 0, 1)


def linear(root):
    return [-Fraction(root), 1]


def at(p, x):
    return value(p, [q(x)])


def with_known_roots(maker, many):
    """A polynomial, and the ascending list of the pairs of its roots and multiplicities."""
    roots = {}
    for _ in range(many):
        roots[q(maker.number(6, 4))] = maker.random.randint(1, 3)
    factors = [linear(x) for x, k in roots.items() for _ in range(k)]
    extra = [[1, 0, 1]] if maker.random.random() < 0.5 else [[Fraction(-5, 3)]]
    return from_factors(*factors, *extra), sorted(roots.items())


class Chains(unittest.TestCase):
    def test_some(self):
        self.assertEqual(chain(TWO), [TWO, uni(0, 2), uni(2)])
        self.assertEqual(chain(uni(6, -2)), [uni(-3, 1), uni(1)])
        self.assertEqual(chain(uni(1, 0, 1)), [uni(1, 0, 1), uni(0, 2), uni(-1)])
        cubic = uni(1, -3, 0, 1)
        self.assertEqual(chain(cubic), [cubic, uni(-3, 0, 3), uni(-1, 2), uni(Fraction(9, 4))])

    def test_constants(self):
        for c in (1, -4, Fraction(2, 3)):
            self.assertEqual(chain(uni(c)), [uni(1)])

    def test_multiple_roots(self):
        self.assertEqual(chain(uni(0, 0, 0, -2)), [uni(0, 1), uni(1)])
        self.assertEqual(chain(raised(1, TWO, 3)), chain(TWO))

    def test_what_a_chain_is(self):
        maker = Maker(16)
        for _ in range(40):
            p = maker.polynomial(1, 5, 7)
            if not p:
                continue
            found = chain(p)
            self.assertIs(type(found), list)
            self.assertEqual(found[0], simple_part(p))
            if len(found) > 1:
                self.assertEqual(found[1], derivative(found[0], 0))
                following = [scaled(divided(a, b)[1], (-1, 1)) for a, b in zip(found, found[1:])]
                self.assertEqual(following, found[2:] + [()])
            self.assertNotIn((), found)

    def test_changes(self):
        self.assertEqual([changes(chain(TWO), num(x)) for x in (-2, 0, 2)], [2, 1, 0])
        self.assertEqual(changes([uni(1), uni(0, 1), uni(-1)], (0, 1)), 1)
        self.assertEqual(changes([uni(1), uni(0, 1), uni(1)], (0, 1)), 0)
        self.assertEqual(changes([uni(0, 1), uni(-1), uni(0, 0, 2)], (0, 1)), 0)
        self.assertEqual(changes([uni(-1), uni(2), uni(0, 1), uni(-3), uni(4)], (-1, 2)), 3)
        self.assertEqual(changes([uni(5)], (1, 1)), 0)
        self.assertEqual(changes([], (1, 1)), 0)


class Counts(unittest.TestCase):
    def test_some(self):
        self.assertEqual(count_roots(TWO, (-2, 1), (2, 1)), 2)
        self.assertEqual(count_roots(TWO, (0, 1), (1, 1)), 0)
        self.assertEqual(count_roots(TWO, (1, 1), (3, 2)), 1)
        self.assertEqual(count_roots(uni(1, 0, 1), (-100, 1), (100, 1)), 0)
        self.assertEqual(count_roots(uni(7), (-100, 1), (100, 1)), 0)

    def test_roots_at_the_ends(self):
        p = from_factors(linear(0), linear(1), linear(1), linear(2))
        for low, high, count in ((0, 1, 1), (0, 2, 2), (-1, 0, 1), (-1, 2, 3), (1, 2, 1), (2, 3, 0), (-1, 1, 2), (1, 3, 1)):
            self.assertEqual(count_roots(p, (low, 1), (high, 1)), count)
        self.assertEqual(count_roots(p, (-1, 1), (-1, 2)), 0)

    def test_against_known_roots_and_chains(self):
        maker = Maker(17)
        for _ in range(60):
            p, roots = with_known_roots(maker, 4)
            low, high = maker.interval()
            if low == high:
                continue
            count = len([x for x, k in roots if q(low) < x <= q(high)])
            self.assertEqual(count_roots(p, low, high), count)
            sturm = chain(p)
            self.assertEqual(changes(sturm, low) - changes(sturm, high), count)

    def test_against_chains(self):
        maker = Maker(18)
        for _ in range(60):
            p, (low, high) = maker.polynomial(1, 7, 8), maker.interval()
            if p and low != high:
                sturm = chain(p)
                self.assertEqual(count_roots(p, low, high), changes(sturm, low) - changes(sturm, high))


class Bounds(unittest.TestCase):
    def test_some(self):
        self.assertEqual(root_bound(TWO), 3)
        self.assertEqual(root_bound(uni(5)), 1)
        self.assertEqual(root_bound(uni(Fraction(-1, 9))), 1)
        self.assertEqual(root_bound(uni(0, 0, 3)), 1)
        self.assertEqual(root_bound(uni(Fraction(1, 2), 1)), 2)
        self.assertEqual(root_bound(uni(-7, 0, 2)), 5)
        self.assertEqual(root_bound(uni(-8, 0, -2)), 5)
        self.assertEqual(root_bound(uni(1, -9, Fraction(1, 2))), 19)
        self.assertEqual(root_bound(uni(0, Fraction(1, 7), 0, Fraction(-1, 3))), 2)

    def test_least_integer(self):
        maker = Maker(19)
        for _ in range(60):
            p = maker.polynomial(1, 4, 6)
            if p:
                coefficients = coefficients_of(p)
                m = max([abs(c) for c in coefficients[:-1]], default=0) / abs(coefficients[-1])
                bound = root_bound(p)
                self.assertTrue(bound - 1 < 1 + m <= bound)
                self.assertIs(type(bound), int)


class Isolated(unittest.TestCase):
    def check(self, p, many):
        """All that is promised of isolated(p), with the number of different real roots."""
        found = isolated(p)
        self.assertIs(type(found), list)
        self.assertEqual(len(found), many)
        last = None
        for interval, k in found:
            self.assertIs(is_interval(interval), True)
            low, high = interval
            if last is not None:
                self.assertLess(last, q(low))
            last = q(high)
            part = dict(parts(p))[k]
            if low == high:
                self.assertEqual(at(part, low), 0)
            else:
                self.assertNotEqual(at(p, low), 0)
                self.assertNotEqual(at(p, high), 0)
                for r in (p, part):
                    sturm = chain(r)
                    self.assertEqual(changes(sturm, low) - changes(sturm, high), 1)
        return found

    def test_rational_and_irrational_ones(self):
        self.check(TWO, 2)
        self.check(uni(0, 1), 1)
        self.check(uni(-1, 3), 1)
        self.check(uni(1, 0, 1), 0)
        self.check(multiplied(TWO, uni(-3, 2)), 3)
        self.check(multiplied(TWO, uni(0, -1, 1)), 4)
        self.check(from_factors(*[linear(k) for k in range(-4, 5)]), 9)
        self.check(from_factors(*[linear(Fraction(k, 8)) for k in range(-4, 5)]), 9)
        self.check(from_factors(*[linear(Fraction(1, k)) for k in range(1, 10)]), 9)

    def test_constants(self):
        for c in (1, Fraction(-2, 3)):
            self.assertEqual(isolated(uni(c)), [])

    def test_multiple_ones(self):
        p = multiplied(multiplied(raised(1, uni(0, 1), 3), raised(1, uni(-1, 1), 2)), multiplied(TWO, uni(-1, 3)))
        self.assertEqual([k for interval, k in self.check(p, 5)], [1, 3, 1, 2, 1])
        p = multiplied(raised(1, TWO, 2), raised(1, uni(-3, 0, 1), 3))
        self.assertEqual([k for interval, k in self.check(p, 4)], [3, 2, 2, 3])

    def test_near_ones(self):
        for gap in (Fraction(1, 10 ** 6), Fraction(1, 10 ** 15), Fraction(1, 3 ** 50)):
            self.check(from_factors(linear(1), linear(1 + gap), linear(1 + 2 * gap)), 3)
            p = from_factors(linear(1), linear(1 - gap), [-2, 0, 1], [-2 - gap, 0, 1])
            self.assertEqual(len(self.check(p, 6)), 6)
        touching = uni(*coefficients_of(raised(1, uni(-1, 10 ** 7), 2)))
        p = tuple(scaled(touching, (-2, 1))) + (((9,), (1, 1)),)
        self.check(p, 3)

    def test_great_and_small_ones(self):
        self.check(from_factors(linear(10 ** 15), linear(-10 ** 15), linear(Fraction(1, 10 ** 15)), linear(0)), 4)

    def test_known_roots(self):
        maker = Maker(20)
        for _ in range(40):
            p, roots = with_known_roots(maker, 5)
            found = self.check(p, len(roots))
            for (interval, k), (x, multiplicity) in zip(found, roots):
                self.assertTrue(q(interval[0]) <= x <= q(interval[1]))
                self.assertEqual(k, multiplicity)


class Refined(unittest.TestCase):
    def check(self, p, interval, bits, root=None):
        found = refined(p, interval, bits)
        self.assertIs(is_interval(found), True)
        self.assertIs(lies_within(found, interval), True)
        low, high = found
        self.assertLessEqual(q(high) - q(low), Fraction(1, 2 ** bits))
        if low == high:
            self.assertEqual(at(p, low), 0)
        else:
            self.assertNotEqual(at(p, low), 0)
            self.assertNotEqual(at(p, high), 0)
            sturm = chain(p)
            self.assertEqual(changes(sturm, low) - changes(sturm, high), 1)
        if root is not None:
            self.assertTrue(q(low) <= root <= q(high))
        return found

    def test_irrational_ones(self):
        for bits in (0, 1, 10, 40, 100):
            self.check(TWO, iv(1, 2), bits)
            self.check(TWO, iv(0, 100), bits)
            self.check(TWO, iv(Fraction(-10, 7), 1), bits)

    def test_rational_ones(self):
        for bits in (0, 3, 40):
            for ends in (iv(0, 1), iv(-1, 2), iv(Fraction(1, 4), Fraction(7, 9)), iv(Fraction(1, 3), 5)):
                self.check(uni(-1, 2), ends, bits, Fraction(1, 2))
            self.check(uni(-1, 3), iv(0, 1), bits, Fraction(1, 3))

    def test_width_zero(self):
        for bits in (0, 5, 40):
            self.assertEqual(refined(uni(-1, 2), iv(Fraction(1, 2), Fraction(1, 2)), bits), ((1, 2), (1, 2)))
            self.assertEqual(refined(uni(0, 0, 1), iv(0, 0), bits), ((0, 1), (0, 1)))

    def test_no_bits(self):
        self.check(TWO, iv(1, 3), 0)
        self.check(TWO, iv(Fraction(-30, 7), 0), 0)

    def test_even_and_odd_multiplicities(self):
        for k in (1, 2, 3, 4):
            self.check(raised(1, TWO, k), iv(1, 2), 20)
            self.check(raised(1, uni(-1, 3), k), iv(-1, 2), 20, Fraction(1, 3))
            self.check(raised(1, uni(-1, 2), k), iv(0, 1), 20, Fraction(1, 2))

    def test_isolated_ones(self):
        maker = Maker(21)
        for _ in range(15):
            p, roots = with_known_roots(maker, 4)
            for (interval, k), (x, multiplicity) in zip(isolated(p), roots):
                self.check(p, interval, 30, x)


if __name__ == "__main__":
    unittest.main()

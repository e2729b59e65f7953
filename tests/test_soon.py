"""Promise [0.2], where it says which calls end soon."""

import signal
import unittest

from helpers import Maker, from_factors, num, q, uni
from rootfast.bernstein import bernstein, halved
from rootfast.bounds import bounds, slopes
from rootfast.combs import check_comb, comb, comb_count, variations
from rootfast.intervals import power_of, product_of, rounded
from rootfast.matrices import determinant, inverse, rank
from rootfast.polynomials import (
    added, degree, derivative, fixed, is_polynomial, moved, multiplied, polynomial, raised, value_at,
)
from rootfast.real import chain, changes, count_roots, isolated, refined, root_bound
from rootfast.roots import (
    compare_root, compare_roots, floor_of, inverse_root, is_root, near, negative_root, roots_of, scaled_root, shifted_root,
    sign_at,
)
from rootfast.single import common_divisor, divided, parts, simple_part
from rootfast.systems import jacobian, values_at
from rootfast.texts import read_polynomial, read_system, write_polynomial, write_system

SECONDS = 60


def too_long(kind, frame):
    raise AssertionError("a call does not end soon")


class Soon(unittest.TestCase):
    def setUp(self):
        signal.signal(signal.SIGALRM, too_long)
        signal.alarm(SECONDS)

    def tearDown(self):
        signal.alarm(0)


def figured(maker, n, terms, most):
    """A polynomial with so many terms, or all that there are, and coefficients of six figures."""
    table = {}
    while len(table) < min(terms, (most + 1) ** n):
        table[tuple(maker.random.randint(0, most) for _ in range(n))] = maker.figures(6)
    return tuple((e, table[e]) for e in sorted(table))


class Polynomials(Soon):
    def test_numbers_with_61_figures(self):
        maker = Maker(22)
        i = (num(-1), maker.figures(61))
        i = i if i[1][0] > 0 else (i[1], num(1))
        for k in range(25):
            rounded(product_of(power_of(i, k), i), 100)

    def test_a_thousand_terms(self):
        maker = Maker(23)
        p = maker.dense(3, 9, lambda: maker.figures(61))
        self.assertEqual(len(p), 1000)
        self.assertTrue(is_polynomial(3, p))
        self.assertEqual(added(p, p), polynomial(3, [(e, (2 * a, b)) if b % 2 else (e, (a, b // 2)) for e, (a, b) in p]))
        derivative(p, 1)
        self.assertEqual(len(multiplied(p, (((1, 2, 3), maker.figures(61)),))), 1000)
        whole = maker.dense(3, 9, lambda: (maker.figures(61)[0], 1))
        point = tuple(maker.figures(20) for _ in range(3))
        self.assertEqual(value_at(moved(3, whole, point), ((0, 1),) * 3), value_at(whole, point))
        fixed(3, whole, 1, maker.figures(61))
        values_at((whole, whole), point)
        jacobian(3, (whole, whole), point)

    def test_products(self):
        maker = Maker(24)
        p, r = (maker.dense(2, 12, lambda: (maker.figures(61)[0], 1)) for _ in range(2))
        self.assertEqual(len(multiplied(p, r)), 625)

    def test_powers(self):
        maker = Maker(25)
        p = (((0, 0), maker.figures(61)), ((0, 1), maker.figures(61)), ((1, 0), maker.figures(61)))
        self.assertEqual(len(raised(2, p, 24)), 325)
        whole = maker.dense(1, 24, lambda: (maker.figures(61)[0], 1))
        self.assertEqual(degree(raised(1, whole, 24)), 576)

    def test_moved(self):
        maker = Maker(26)
        p = maker.dense(2, 24, lambda: (maker.figures(61)[0], 1))
        self.assertEqual(degree(moved(2, p, (maker.figures(61), maker.figures(61)))), 48)

    def test_texts(self):
        p = read_polynomial(4, "(x - 1/2*y + z - 3*u + 1)^9")
        self.assertEqual(len(p), 715)
        self.assertEqual(read_polynomial(4, write_polynomial(4, p)), p)
        self.assertEqual(read_system(4, write_system(4, (p,) * 4)), (p,) * 4)
        self.assertEqual(read_polynomial(4, "(x+y+z+u+1)^12 - (x+y+z+u+1)^12"), ())
        self.assertEqual(read_polynomial(1, " + ".join(["x"] * 20000)), uni(0, 20000))


class Matrices(Soon):
    def test_matrices(self):
        maker = Maker(27)
        four = tuple(tuple(maker.figures(61) for _ in range(4)) for _ in range(4))
        self.assertNotEqual(determinant(four), (0, 1))
        self.assertIsNotNone(inverse(four))
        tall = tuple(tuple(maker.figures(6) for _ in range(28)) for _ in range(100))
        self.assertEqual(rank(tall), 28)
        flat = tuple(tuple((maker.random.randint(-3, 3), 1) for _ in range(27)) + ((0, 1),) for _ in range(2800))
        self.assertEqual(rank(flat), 27)


class OneVariable(Soon):
    def dense(self, maker, top, whole=False):
        return maker.dense(1, top, lambda: (maker.figures(15)[0], 1) if whole else maker.figures(15))

    def test_degree_25_with_fifteen_figures(self):
        maker = Maker(28)
        for whole in (False, True):
            p, r = self.dense(maker, 25, whole), self.dense(maker, 24, whole)
            self.assertEqual(common_divisor(p, r), uni(1))
            self.assertEqual(len(parts(p)), 1)
            self.assertEqual(degree(simple_part(p)), 25)
            divided(p, self.dense(maker, 12, whole))
            bound = root_bound(p)
            found = isolated(p)
            self.assertEqual(count_roots(p, (-bound, 1), (bound, 1)), len(found))
            self.assertEqual(count_roots(p, maker.figures(15), (bound + 10 ** 16, 1)) >= 0, True)
            for interval, k in found:
                refined(p, interval, 40)

    def test_chains(self):
        maker = Maker(29)
        for top in (8, 14):
            p = maker.dense(1, top, lambda: (maker.figures(5)[0], 1))
            sturm = chain(p)
            self.assertEqual(len(sturm), top + 1)
            self.assertEqual(changes(sturm, (-1, 3)) - changes(sturm, (7, 2)), count_roots(p, (-1, 3), (7, 2)))

    def test_multiple_roots(self):
        p = from_factors(*[[-1, 3]] * 25)
        self.assertEqual([k for interval, k in isolated(p)], [25])
        maker = Maker(30)
        half = self.dense(maker, 11)
        p = multiplied(multiplied(half, half), self.dense(maker, 3))
        self.assertEqual([(k, degree(r)) for k, r in parts(p)], [(1, 3), (2, 11)])
        isolated(p)

    def test_near_roots(self):
        p = uni(-1, 2 * 10 ** 7, -10 ** 14, *[0] * 22, 1)
        found = isolated(p)
        self.assertEqual(len(found), 3)
        for interval, k in found:
            refined(p, interval, 40)

    def test_many_roots(self):
        p = from_factors(*[[-k, 1] for k in range(1, 15)])
        self.assertEqual(len(isolated(p)), 14)
        self.assertEqual(count_roots(p, (3, 1), (10, 1)), 7)

    def test_combs(self):
        maker = Maker(31)
        for p in (self.dense(maker, 25), self.dense(maker, 25, True), from_factors(*[[-1, 3]] * 24, [0, 1])):
            bound = (root_bound(p), 1)
            variations(p, (-7, 3), bound)
            found = comb(p, (-7, 3), bound, 40)
            self.assertTrue(check_comb(p, (-7, 3), bound, found))
            comb_count(p, (-7, 3), bound, found)
            coefficients = bernstein(p, maker.figures(15), (bound[0] + 10 ** 16, 1))
            self.assertEqual(len(coefficients), 26)
            halved(halved(coefficients)[0])

    def test_roots(self):
        maker = Maker(32)
        p, other = self.dense(maker, 25), self.dense(maker, 24)
        mine, more = roots_of(p), roots_of(multiplied(self.dense(maker, 5), from_factors(*[[-1, 3]] * 20)))
        self.assertTrue(mine and more)
        for r in mine[:2] + more[-2:]:
            self.assertTrue(is_root(r))
            floor_of(r)
            near(r, 40)
            compare_root(r, maker.figures(15))
            self.assertEqual([sign_at(p, r) == 0, abs(sign_at(other, r))], [r in mine, 1])
            for s in mine + more:
                self.assertEqual(compare_roots(r, s), -compare_roots(s, r))
            for s in (negative_root(r), shifted_root(r, maker.figures(15)), scaled_root(r, maker.figures(15)), inverse_root(r)):
                self.assertTrue(is_root(s))
                self.assertEqual(compare_roots(s, s), 0)


class Boxes(Soon):
    def test_bounds(self):
        maker = Maker(33)
        for n in (1, 2, 3, 4):
            system = tuple(figured(maker, n, 15, 4) for _ in range(n))
            box = tuple(tuple(sorted([maker.figures(6), maker.figures(6)], key=q)) for _ in range(n))
            slopes(system, box)
            for p in system:
                bounds(p, box)


if __name__ == "__main__":
    unittest.main()

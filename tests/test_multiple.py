"""Promises [11.1] to [11.3]: multiplicities and deflation."""

import itertools
import unittest
from fractions import Fraction

from helpers import Maker, from_factors, num, q, system_of, value
from rootfast.errors import NoZero, RootfastError
from rootfast.matrices import rank
from rootfast.multiple import deflated, deflation, dual_size, multiplicity, regular_part
from rootfast.polynomials import added, constant, derivative, moved, multiplied, scaled
from rootfast.systems import is_system, jacobian

ZERO = (0, 1)
ORIGINS = {n: (ZERO,) * n for n in (1, 2, 3)}

# Systems with a zero at 0 and its multiplicity.
KNOWN = [
    (1, ("x",), 1), (1, ("x^2",), 2), (1, ("x^3 - x^4",), 3), (1, ("x^4", "x^3 + x^5"), 3), (1, ("x^6",), 6),
    (2, ("x", "y"), 1), (2, ("x^2", "y"), 2), (2, ("x^2", "y^2"), 4), (2, ("x^2", "x*y", "y^2"), 3),
    (2, ("y - x^2", "y"), 2), (2, ("y - x^2", "y^2"), 4), (2, ("x^2 + y^3", "x^3 + y^2"), 4), (2, ("x^3", "y^3"), 9),
    (2, ("x^2 - y^2", "x*y"), 4), (2, ("y^2 - x^3", "y"), 3), (2, ("y^2 - x^3", "x"), 2), (2, ("y - x^2", "y - x^2 + x^5"), 5),
    (2, ("x + y - x*y", "x + y + x^2*y"), 2), (2, ("x", "x", "y + x"), 1), (2, ("x^2", "y^3", "x*y^2"), 5),
    (3, ("x", "y", "z"), 1), (3, ("x^2", "y", "z"), 2), (3, ("x^2", "y^2", "z"), 4), (3, ("x^2", "y^2", "z^2"), 8),
    (3, ("x - y^2", "y - z^2", "z^2"), 2), (3, ("x*y", "y*z", "x*z", "x^2 - y^2", "y^2 - z^2"), 5),
    (3, ("x + y + z", "x*y", "z^3"), 6), (3, ("x^2", "x*y", "x*z", "y^2", "y*z", "z^2"), 4),
]

# Systems that are 0 along a line or more through 0.
NOT_ISOLATED = [
    (1, ("0",)), (1, ("0", "0")), (2, ("x",)), (2, ("x - y", "(x - y)^2")), (3, ("x - y", "(y - z)*(x + y)", "(x - z)^2")), (2, ("x*y", "x")), (2, ("x - y", "x^2 - y^2")), (2, ("x^2", "0")),
    (2, ("y - x^2", "y - x^2")), (3, ("x", "y")), (3, ("x*z", "y*z", "z^2")), (3, ("x", "y^2", "x*y")),
]


def point_of(*coordinates):
    return tuple(num(Fraction(x)) for x in coordinates)


def moved_to(n, system, point):
    """The system with what was at 0 at a point."""
    return tuple(moved(n, p, tuple((-a, b) for a, b in point)) for p in system)


def monomials(n, d):
    return [e for e in itertools.product(range(d + 1), repeat=n) if sum(e) <= d]


def macaulay(n, system, point, d):
    """The rows of Macaulay's matrix, as the document tells them."""
    columns = monomials(n, d)
    rows = []
    for p in system:
        table = dict(moved(n, p, point))
        for shift in columns:
            lower = [tuple(a - b for a, b in zip(e, shift)) for e in columns]
            rows.append(tuple(table.get(e, ZERO) for e in lower))
    return tuple(rows)


def slow_dual_size(n, system, point, d):
    return len(monomials(n, d)) - rank(macaulay(n, system, point, d))


def polynomial_minor(n, rows):
    """The determinant of rows of polynomials, the sum over all orders of the columns."""
    total = ()
    for order in itertools.permutations(range(len(rows))):
        turned = sum(order[i] > order[j] for i, j in itertools.combinations(range(len(order)), 2))
        product = constant(n, num((-1) ** turned))
        for row, k in zip(rows, order):
            product = multiplied(product, row[k])
        total = added(total, product)
    return total


def slow_deflated(n, system, point):
    r = rank(jacobian(n, system, point))
    if r == n:
        return system
    found = list(system)
    for rows in itertools.combinations(system, r + 1):
        for columns in itertools.combinations(range(n), r + 1):
            p = polynomial_minor(n, [[derivative(p, k) for k in columns] for p in rows])
            if p != () and p not in found:
                found.append(p)
    return tuple(found)


def made_systems(maker, many):
    """Triples of n, a system and a zero of it, some without terms of low degrees there."""
    for _ in range(many):
        n = maker.random.randint(1, 3)
        point = maker.point(n)
        system = []
        for _ in range(maker.random.randint(1, 4 if n < 3 else 3)):
            low = maker.random.choice((1, 1, 2, 3))
            p = maker.polynomial(n, maker.random.randint(0, 6), maker.random.choice((1, 2, 3 if n < 3 else 2)))
            system.append(tuple((e, c) for e, c in p if sum(e) >= low))
        yield n, moved_to(n, tuple(system), point), point


class DualSizes(unittest.TestCase):
    def test_known_ones(self):
        for d, size in enumerate((1, 3, 3, 3)):
            self.assertEqual(dual_size(2, system_of(2, "x^2", "x*y", "y^2"), ORIGINS[2], d), size)
        for d, size in enumerate((1, 2, 3, 4, 4)):
            self.assertEqual(dual_size(1, system_of(1, "x^4"), ORIGINS[1], d), size)
        for d, size in enumerate((1, 3, 4, 4)):
            self.assertEqual(dual_size(2, system_of(2, "x^2", "y^2"), ORIGINS[2], d), size)
        for d, size in enumerate((1, 4, 7, 8, 8)):
            self.assertEqual(dual_size(3, system_of(3, "x^2", "y^2", "z^2"), ORIGINS[3], d), size)

    def test_without_an_end(self):
        for d in range(6):
            self.assertEqual(dual_size(2, ((),), ORIGINS[2], d), (d + 1) * (d + 2) // 2)
            self.assertEqual(dual_size(1, ((), ()), ORIGINS[1], d), d + 1)
            self.assertEqual(dual_size(2, system_of(2, "x"), ORIGINS[2], d), d + 1)
            self.assertEqual(dual_size(3, system_of(3, "x*y"), ORIGINS[3], d), (d + 1) ** 2)

    def test_no_zero(self):
        for n, system in ((1, system_of(1, "x - 1")), (2, system_of(2, "x", "y + 1")), (3, system_of(3, "0", "x + 2", "z"))):
            for d in range(5):
                self.assertEqual(dual_size(n, system, ORIGINS[n], d), 0)
        self.assertEqual(dual_size(1, system_of(1, "x - 1"), point_of(1), 0), 1)

    def test_against_macaulay(self):
        for n, system, point in made_systems(Maker(101), 120):
            sizes = [dual_size(n, system, point, d) for d in range(5 if n < 3 else 4)]
            self.assertEqual(sizes, [slow_dual_size(n, system, point, d) for d in range(len(sizes))], (n, system))
            self.assertEqual(sizes, sorted(sizes))

    def test_against_macaulay_with_common_factors(self):
        maker = Maker(108)
        for _ in range(60):
            n = maker.random.randint(2, 3)
            point = maker.point(n)
            first, second, third = (
                tuple((e, c) for e, c in maker.polynomial(n, 4, 1) if low <= sum(e) <= 2) for low in (1, 0, 1)
            )
            system = moved_to(n, (multiplied(first, third), multiplied(second, third), multiplied(first, first)), point)
            for d in range(5 if n == 2 else 4):
                self.assertEqual(dual_size(n, system, point, d), slow_dual_size(n, system, point, d))

    def test_against_macaulay_at_any_point(self):
        maker = Maker(102)
        for _ in range(40):
            n = maker.random.randint(1, 3)
            system = tuple(maker.polynomial(n, 3, 2) for _ in range(2))
            point = maker.point(n)
            for d in range(3):
                self.assertEqual(dual_size(n, system, point, d), slow_dual_size(n, system, point, d))

    def test_great_numbers(self):
        maker = Maker(103)
        point = (maker.figures(6), maker.figures(6))
        system = tuple(
            tuple((e, maker.figures(6)) for e in itertools.product(range(4), repeat=2) if sum(e) >= 2) for _ in range(2)
        )
        system = moved_to(2, system, point)
        self.assertEqual([dual_size(2, system, point, d) for d in range(4)], [1, 3, 4, 4])
        self.assertEqual([slow_dual_size(2, system, point, d) for d in range(4)], [1, 3, 4, 4])


class Multiplicities(unittest.TestCase):
    def test_known_ones(self):
        shift = point_of(Fraction(1, 2), -3, Fraction(5, 7))
        for n, texts, k in KNOWN:
            system = system_of(n, *texts)
            self.assertEqual(multiplicity(n, system, ORIGINS[n], 8), k, texts)
            self.assertEqual(multiplicity(n, moved_to(n, system, shift[:n]), shift[:n], 8), k, texts)

    def test_one_exactly_at_full_rank(self):
        for n, system, point in made_systems(Maker(104), 150):
            full = rank(jacobian(n, system, point)) == n
            self.assertEqual(multiplicity(n, system, point, 3) == 1, full)
        for n, texts, k in KNOWN:
            full = rank(jacobian(n, system_of(n, *texts), ORIGINS[n])) == n
            self.assertEqual(full, k == 1)

    def test_one_variable(self):
        maker = Maker(105)
        for _ in range(40):
            roots = [maker.number(9, 4) for _ in range(maker.random.randint(1, 3))]
            times = [maker.random.randint(1, 4) for _ in roots]
            p = from_factors([3], *[[-q(r), 1] for r, k in zip(roots, times) for _ in range(k)])
            for r in roots:
                k = sum(k for s, k in zip(roots, times) if s == r)
                self.assertEqual(multiplicity(1, (p,), (r,), 8), k if k < 10 else None)

    def test_the_least_degree_counts(self):
        for k in range(1, 9):
            p = ((((k,), (1, 1)),),)
            self.assertEqual(multiplicity(1, p, ORIGINS[1], k - 1), k)
            self.assertEqual(multiplicity(1, p, ORIGINS[1], 8), k)
            for most in range(k - 1):
                self.assertIsNone(multiplicity(1, p, ORIGINS[1], most))
        square = system_of(2, "x^2", "y^2")
        self.assertEqual([multiplicity(2, square, ORIGINS[2], most) for most in range(4)], [None, None, 4, 4])

    def test_most_0(self):
        self.assertEqual(multiplicity(2, system_of(2, "x + y", "x - y"), ORIGINS[2], 0), 1)
        self.assertIsNone(multiplicity(1, system_of(1, "x^2"), ORIGINS[1], 0))
        self.assertEqual(multiplicity(1, system_of(1, "x^2 - 1"), ORIGINS[1], 0), 0)
        self.assertIsNone(multiplicity(2, ((), ()), ORIGINS[2], 0))

    def test_no_zero(self):
        for most in range(9):
            self.assertEqual(multiplicity(2, system_of(2, "x", "x*y + 1"), ORIGINS[2], most), 0)
            self.assertEqual(multiplicity(3, system_of(3, "0", "0", "1"), ORIGINS[3], most), 0)

    def test_not_isolated(self):
        for n, texts in NOT_ISOLATED:
            for most in (0, 1, 4) if n == 3 else (0, 1, 5, 8):
                self.assertIsNone(multiplicity(n, system_of(n, *texts), ORIGINS[n], most), texts)

    def test_polynomials_twice_or_0(self):
        for n, texts, k in KNOWN:
            system = system_of(n, *texts)
            self.assertEqual(multiplicity(n, system + system[:1] + ((),), ORIGINS[n], 8), k)
            self.assertEqual(multiplicity(n, ((),) + system + (scaled(system[-1], (-3, 7)),), ORIGINS[n], 8), k)

    def test_all_zeros_of_a_system(self):
        # x^2 (x - 1) = 0 and y^2 (y + 1) = 0 have nine zeros, counted with their multiplicities.
        system = system_of(2, "x^3 - x^2", "y^3 + y^2")
        found = [multiplicity(2, system, point_of(x, y), 4) for x in (0, 1) for y in (0, -1)]
        self.assertEqual(found, [4, 2, 2, 1])


class Deflating(unittest.TestCase):
    def test_itself_at_full_rank(self):
        for n, system in ((1, system_of(1, "x + x^2")), (2, system_of(2, "x", "y", "x*y")), (3, system_of(3, "x", "y + z", "z"))):
            self.assertEqual(deflated(n, system, ORIGINS[n]), system)

    def test_order(self):
        system = system_of(2, "x^2 + y^3", "x*y^2 - y^2")
        slopes = [[derivative(p, k) for k in range(2)] for p in system]
        self.assertEqual(deflated(2, system, ORIGINS[2]), system + tuple(slopes[0] + slopes[1]))
        system = system_of(3, "x + y^2 + z^3", "x + y*z + 2*z^2", "x - z^2*y + 3*y^2")
        rows = [[derivative(p, k) for k in range(3)] for p in system]
        more = []
        for i, j in ((0, 1), (0, 2), (1, 2)):
            for k, m in ((0, 1), (0, 2), (1, 2)):
                more.append(polynomial_minor(3, [[rows[i][k], rows[i][m]], [rows[j][k], rows[j][m]]]))
        self.assertEqual(len(set(more)), 9)
        self.assertEqual(deflated(3, system, ORIGINS[3]), system + tuple(more))

    def test_left_out(self):
        self.assertEqual(deflated(1, system_of(1, "x^3", "3*x^2"), ORIGINS[1]), system_of(1, "x^3", "3*x^2", "6*x"))
        self.assertEqual(deflated(1, system_of(1, "x^2", "x^2"), ORIGINS[1]), system_of(1, "x^2", "x^2", "2*x"))
        self.assertEqual(deflated(2, system_of(2, "x", "x"), ORIGINS[2]), system_of(2, "x", "x"))
        self.assertEqual(deflated(2, system_of(2, "x", "2*x", "y^2"), ORIGINS[2]), system_of(2, "x", "2*x", "y^2", "2*y", "4*y"))
        self.assertEqual(deflated(1, system_of(1, "0"), ORIGINS[1]), system_of(1, "0"))
        self.assertEqual(deflated(2, system_of(2, "0", "x^2"), ORIGINS[2]), system_of(2, "0", "x^2", "2*x"))
        # What is only a multiple of a polynomial before stays.
        self.assertEqual(deflated(1, system_of(1, "x^2", "4*x"), ORIGINS[1]), system_of(1, "x^2", "4*x"))
        self.assertEqual(deflated(1, system_of(1, "x^3", "x^2"), ORIGINS[1]), system_of(1, "x^3", "x^2", "3*x^2", "2*x"))

    def test_fewer_polynomials_than_rows(self):
        for n, texts in ((2, ("x + y^2",)), (3, ("x", "y - z^2")), (3, ("x + y*z",))):
            system = system_of(n, *texts)
            self.assertEqual(deflated(n, system, ORIGINS[n]), system)

    def test_against_all_orders(self):
        ranks = set()
        plain = [(3, system_of(3, "x + y^2", "y - z", "2*z + x*y"), ORIGINS[3])]
        for n, system, point in plain + list(made_systems(Maker(106), 120)):
            ranks.add((n, rank(jacobian(n, system, point))))
            self.assertEqual(deflated(n, system, point), slow_deflated(n, system, point))
        self.assertEqual(ranks, {(n, r) for n in (1, 2, 3) for r in range(n + 1)})

    def test_the_point_stays_a_zero_of_less(self):
        shift = point_of(-2, Fraction(1, 3), 4)
        for n, texts, k in KNOWN:
            system = moved_to(n, system_of(n, *texts), shift[:n])
            found = deflated(n, system, shift[:n])
            self.assertTrue(is_system(n, found))
            self.assertEqual(found[:len(system)], system)
            self.assertTrue(all(value(p, [q(x) for x in shift[:n]]) == 0 for p in found))
            after = multiplicity(n, found, shift[:n], 8)
            self.assertLessEqual(after, k)
            if len(system) == n and rank(jacobian(n, system, shift[:n])) == n - 1:
                self.assertLess(after, k)

    def test_no_zero(self):
        for n, texts in ((1, ("x + 1",)), (2, ("x", "y - 1")), (2, ("1", "0")), (3, ("x", "y", "z + 1"))):
            with self.assertRaises(NoZero):
                deflated(n, system_of(n, *texts), ORIGINS[n])
        with self.assertRaises(RootfastError):
            deflated(1, system_of(1, "x"), point_of(1))


class Deflations(unittest.TestCase):
    def test_lists(self):
        maker = Maker(107)
        for n, texts, k in KNOWN:
            system = system_of(n, *texts)
            # In some of them the fourth would have very many polynomials.
            found = deflation(n, system, ORIGINS[n], 2)
            steps = [system]
            while len(steps) < 4 and rank(jacobian(n, steps[-1], ORIGINS[n])) < n:
                steps.append(slow_deflated(n, steps[-1], ORIGINS[n]) if len(steps) < 3 else None)
            if steps[-1] is None:
                self.assertIsNone(found, texts)
            else:
                self.assertEqual(found, steps, texts)
        self.assertIs(type(deflation(1, system_of(1, "x"), ORIGINS[1], maker.random.randint(0, 4))), list)

    def test_most(self):
        for k in range(1, 5):
            system = ((((k + 1,), (1, 1)),),)
            for most in range(5):
                found = deflation(1, system, ORIGINS[1], most)
                if most < k:
                    self.assertIsNone(found)
                else:
                    self.assertEqual([len(step) for step in found], list(range(1, k + 2)))
                    self.assertEqual(multiplicity(1, found[-1], ORIGINS[1], 0), 1)

    def test_most_0(self):
        system = system_of(2, "x + y^2", "y - x^2")
        self.assertEqual(deflation(2, system, ORIGINS[2], 0), [system])
        self.assertIsNone(deflation(2, system_of(2, "x^2", "y"), ORIGINS[2], 0))

    def test_not_isolated(self):
        for n, texts in (NOT_ISOLATED[0], NOT_ISOLATED[2], NOT_ISOLATED[6], NOT_ISOLATED[7]):
            for most in range(5):
                self.assertIsNone(deflation(n, system_of(n, *texts), ORIGINS[n], most))

    def test_no_zero(self):
        for n, texts in ((1, ("x + 1",)), (1, ("x^2 + 1",)), (2, ("x", "y - 1")), (2, ("0", "1"))):
            for most in range(5):
                with self.assertRaises(NoZero):
                    deflation(n, system_of(n, *texts), ORIGINS[n], most)


class RegularParts(unittest.TestCase):
    def test_as_it_is(self):
        system = system_of(2, "x + y^2", "y - x^2")
        self.assertEqual(regular_part(2, system, ORIGINS[2]), system)

    def test_more_polynomials_than_variables(self):
        system = system_of(2, "x^2", "0", "x + y", "2*x + 2*y + x*y", "x + y", "x - y", "x")
        self.assertEqual(regular_part(2, system, ORIGINS[2]), system_of(2, "x + y", "x - y"))
        system = system_of(3, "x + y", "y", "x", "x*z", "x + y + z", "z")
        self.assertEqual(regular_part(3, system, ORIGINS[3]), system_of(3, "x + y", "y", "x + y + z"))
        self.assertEqual(regular_part(1, system_of(1, "x^2", "3*x", "x"), ORIGINS[1]), system_of(1, "3*x"))

    def test_after_deflation(self):
        shift = point_of(Fraction(3, 4), -1, 2)
        for n, texts, k in KNOWN:
            system = moved_to(n, system_of(n, *texts), shift[:n])
            found = deflation(n, system, shift[:n], 2)
            if found is not None:
                part = regular_part(n, found[-1], shift[:n])
                self.assertEqual(len(part), n)
                self.assertEqual(rank(jacobian(n, part, shift[:n])), n)
                places = [found[-1].index(p) for p in part]
                self.assertEqual(places, sorted(places))

    def test_no_such_zero(self):
        for n, texts in (
            (1, ("x + 1",)), (1, ("x^2",)), (2, ("x", "x + y^2")), (2, ("x",)), (2, ("x", "y", "1")), (3, ("x", "y", "x + y")),
            (2, ("x^2", "y^2", "x*y")),
        ):
            with self.assertRaises(NoZero):
                regular_part(n, system_of(n, *texts), ORIGINS[n])


if __name__ == "__main__":
    unittest.main()

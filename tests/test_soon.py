"""Promise [0.2], where it says which calls end soon."""

import itertools
import signal
import unittest
from fractions import Fraction

from helpers import Maker, around, box_of, from_factors, nested, num, q, system_of, uni
from rootfast.bernstein import bernstein, halved
from rootfast.bounds import bounds, slopes
from rootfast.boxes import box_middle, box_widths, widened
from rootfast.claims import judged, read_claim, write_claim
from rootfast.combs import check_comb, comb, comb_count, variations
from rootfast.critical import critical_boxes, hessian, shape_over
from rootfast.desk import run_desk
from rootfast.elimination import (
    check_elimination, column_counts, elimination_paper, is_upright, resultant, zero_count, zeros_above,
)
from rootfast.errors import BadText
from rootfast.hunts import Hunt, restored
from rootfast.intervals import power_of, product_of, rounded
from rootfast.least import check_least, least
from rootfast.matrices import determinant, inverse, rank
from rootfast.multiple import deflated, deflation, dual_size, multiplicity, regular_part
from rootfast.papers import cover_paper, is_cover, is_single, narrowed, same_zero, single_paper
from rootfast.paths import check_tube, cut, end_boxes, joined, track, zero_at
from rootfast.plane import (
    counted_zeros, exchanged, frame, is_fair, plane_zeros, rational_roots, rational_zeros,
)
from rootfast.polynomials import (
    added, constant, degree, derivative, fixed, is_polynomial, moved, multiplied, polynomial, raised, subtracted, value_at,
)
from rootfast.real import chain, changes, count_roots, isolated, refined, root_bound
from rootfast.roots import (
    compare_root, compare_roots, floor_of, inverse_root, is_root, near, negative_root, roots_of, scaled_root, shifted_root,
    sign_at,
)
from rootfast.signs import cells_that_meet, marks, samples, sign_table, solution
from rootfast.single import common_divisor, divided, parts, simple_part
from rootfast.sums import product_of_roots, sum_of_roots
from rootfast.systems import jacobian, values_at
from rootfast.texts import read_polynomial, read_system, write_polynomial, write_system
from rootfast.trees import check_tree, different, rest, search, told, tree_counts, tree_depth, zeros_within
from rootfast.winding import check_walk, least_zeros, walk, winding

SECONDS = 60


def too_long(kind, frame):
    raise AssertionError("a call does not end soon")


class Soon(unittest.TestCase):
    def setUp(self):
        signal.signal(signal.SIGALRM, too_long)
        signal.alarm(SECONDS)

    def tearDown(self):
        signal.alarm(0)


def figured(maker, n, terms, most):
    """A polynomial with so many terms, or all that there are, and coefficients of six figures."""
    table = {}
    while len(table) < min(terms, (most + 1) ** n):
        table[tuple(maker.random.randint(0, most) for _ in range(n))] = maker.figures(6)
    return tuple((e, table[e]) for e in sorted(table))


class Polynomials(Soon):
    def test_numbers_with_61_figures(self):
        maker = Maker(22)
        i = (num(-1), maker.figures(61))
        i = i if i[1][0] > 0 else (i[1], num(1))
        for k in range(25):
            rounded(product_of(power_of(i, k), i), 100)

    def test_a_thousand_terms(self):
        maker = Maker(23)
        p = maker.dense(3, 9, lambda: maker.figures(61))
        self.assertEqual(len(p), 1000)
        self.assertTrue(is_polynomial(3, p))
        self.assertEqual(added(p, p), polynomial(3, [(e, (2 * a, b)) if b % 2 else (e, (a, b // 2)) for e, (a, b) in p]))
        derivative(p, 1)
        self.assertEqual(len(multiplied(p, (((1, 2, 3), maker.figures(61)),))), 1000)
        whole = maker.dense(3, 9, lambda: (maker.figures(61)[0], 1))
        point = tuple(maker.figures(20) for _ in range(3))
        self.assertEqual(value_at(moved(3, whole, point), ((0, 1),) * 3), value_at(whole, point))
        fixed(3, whole, 1, maker.figures(61))
        values_at((whole, whole), point)
        jacobian(3, (whole, whole), point)

    def test_products(self):
        maker = Maker(24)
        p, r = (maker.dense(2, 12, lambda: (maker.figures(61)[0], 1)) for _ in range(2))
        self.assertEqual(len(multiplied(p, r)), 625)

    def test_powers(self):
        maker = Maker(25)
        p = (((0, 0), maker.figures(61)), ((0, 1), maker.figures(61)), ((1, 0), maker.figures(61)))
        self.assertEqual(len(raised(2, p, 24)), 325)
        whole = maker.dense(1, 24, lambda: (maker.figures(61)[0], 1))
        self.assertEqual(degree(raised(1, whole, 24)), 576)

    def test_moved(self):
        maker = Maker(26)
        p = maker.dense(2, 24, lambda: (maker.figures(61)[0], 1))
        self.assertEqual(degree(moved(2, p, (maker.figures(61), maker.figures(61)))), 48)

    def test_texts(self):
        p = read_polynomial(4, "(x - 1/2*y + z - 3*u + 1)^9")
        self.assertEqual(len(p), 715)
        self.assertEqual(read_polynomial(4, write_polynomial(4, p)), p)
        self.assertEqual(read_system(4, write_system(4, (p,) * 4)), (p,) * 4)
        self.assertEqual(read_polynomial(4, "(x+y+z+u+1)^12 - (x+y+z+u+1)^12"), ())
        self.assertEqual(read_polynomial(1, " + ".join(["x"] * 20000)), uni(0, 20000))


class Matrices(Soon):
    def test_matrices(self):
        maker = Maker(27)
        four = tuple(tuple(maker.figures(61) for _ in range(4)) for _ in range(4))
        self.assertNotEqual(determinant(four), (0, 1))
        self.assertIsNotNone(inverse(four))
        tall = tuple(tuple(maker.figures(6) for _ in range(28)) for _ in range(100))
        self.assertEqual(rank(tall), 28)
        flat = tuple(tuple((maker.random.randint(-3, 3), 1) for _ in range(27)) + ((0, 1),) for _ in range(2800))
        self.assertEqual(rank(flat), 27)


class OneVariable(Soon):
    def dense(self, maker, top, whole=False):
        return maker.dense(1, top, lambda: (maker.figures(15)[0], 1) if whole else maker.figures(15))

    def test_degree_25_with_fifteen_figures(self):
        maker = Maker(28)
        for whole in (False, True):
            p, r = self.dense(maker, 25, whole), self.dense(maker, 24, whole)
            self.assertEqual(common_divisor(p, r), uni(1))
            self.assertEqual(len(parts(p)), 1)
            self.assertEqual(degree(simple_part(p)), 25)
            divided(p, self.dense(maker, 12, whole))
            bound = root_bound(p)
            found = isolated(p)
            self.assertEqual(count_roots(p, (-bound, 1), (bound, 1)), len(found))
            self.assertEqual(count_roots(p, maker.figures(15), (bound + 10 ** 16, 1)) >= 0, True)
            for interval, k in found:
                refined(p, interval, 40)

    def test_chains(self):
        maker = Maker(29)
        for top in (8, 14):
            p = maker.dense(1, top, lambda: (maker.figures(5)[0], 1))
            sturm = chain(p)
            self.assertEqual(len(sturm), top + 1)
            self.assertEqual(changes(sturm, (-1, 3)) - changes(sturm, (7, 2)), count_roots(p, (-1, 3), (7, 2)))

    def test_multiple_roots(self):
        p = from_factors(*[[-1, 3]] * 25)
        self.assertEqual([k for interval, k in isolated(p)], [25])
        maker = Maker(30)
        half = self.dense(maker, 11)
        p = multiplied(multiplied(half, half), self.dense(maker, 3))
        self.assertEqual([(k, degree(r)) for k, r in parts(p)], [(1, 3), (2, 11)])
        isolated(p)

    def test_near_roots(self):
        p = uni(-1, 2 * 10 ** 7, -10 ** 14, *[0] * 22, 1)
        found = isolated(p)
        self.assertEqual(len(found), 3)
        for interval, k in found:
            refined(p, interval, 40)

    def test_many_roots(self):
        p = from_factors(*[[-k, 1] for k in range(1, 15)])
        self.assertEqual(len(isolated(p)), 14)
        self.assertEqual(count_roots(p, (3, 1), (10, 1)), 7)

    def test_combs(self):
        maker = Maker(31)
        for p in (self.dense(maker, 25), self.dense(maker, 25, True), from_factors(*[[-1, 3]] * 24, [0, 1])):
            bound = (root_bound(p), 1)
            variations(p, (-7, 3), bound)
            found = comb(p, (-7, 3), bound, 40)
            self.assertTrue(check_comb(p, (-7, 3), bound, found))
            comb_count(p, (-7, 3), bound, found)
            coefficients = bernstein(p, maker.figures(15), (bound[0] + 10 ** 16, 1))
            self.assertEqual(len(coefficients), 26)
            halved(halved(coefficients)[0])

    def test_roots(self):
        maker = Maker(32)
        p, other = self.dense(maker, 25), self.dense(maker, 24)
        mine, more = roots_of(p), roots_of(multiplied(self.dense(maker, 5), from_factors(*[[-1, 3]] * 20)))
        self.assertTrue(mine and more)
        for r in mine[:2] + more[-2:]:
            self.assertTrue(is_root(r))
            floor_of(r)
            near(r, 40)
            compare_root(r, maker.figures(15))
            self.assertEqual([sign_at(p, r) == 0, abs(sign_at(other, r))], [r in mine, 1])
            for s in mine + more:
                self.assertEqual(compare_roots(r, s), -compare_roots(s, r))
            for s in (negative_root(r), shifted_root(r, maker.figures(15)), scaled_root(r, maker.figures(15)), inverse_root(r)):
                self.assertTrue(is_root(s))
                self.assertEqual(compare_roots(s, s), 0)


def figured_box(maker, n):
    """A box whose ends have six figures."""
    return tuple(tuple(sorted([maker.figures(6), maker.figures(6)], key=q)) for _ in range(n))


def with_zero(maker, n, variables, most):
    """Polynomials as great as told, with a zero at a point of n coordinates and, behind that, zeros."""
    point = maker.point(n)
    behind = point + ((0, 1),) * (variables - n)
    system = [figured(maker, variables, 15, most) for _ in range(n)]
    return tuple(subtracted(p, constant(variables, value_at(p, behind))) for p in system), point


def certified(system, point):
    """A box around a zero with a right single paper, as great as a few tries tell, and this paper; or None."""
    for k in range(40):
        box = around([q(x) for x in point], Fraction(4, 3 ** k))
        A = single_paper(system, box)
        if A is not None:
            return box, A
    return None


def numbers_in(value):
    """All integers in a value of tuples."""
    if type(value) is tuple:
        return [x for part in value for x in numbers_in(part)]
    return [value] if type(value) is int else []


class Boxes(Soon):
    def test_bounds(self):
        maker = Maker(33)
        for n in (1, 2, 3, 4):
            system = tuple(figured(maker, n, 15, 4) for _ in range(n))
            box = figured_box(maker, n)
            slopes(system, box)
            for p in system:
                bounds(p, box)
            single_paper(system, box)
            cover_paper(system, box)

    def test_papers(self):
        maker = Maker(34)
        for n in (1, 2, 3, 4):
            for _ in range(3):
                system, point = with_zero(maker, n, n, 4)
                found = certified(system, point)
                if found is not None:
                    box, A = found
                    small = narrowed(system, box, A, 40)
                    self.assertTrue(all(q(width) <= Fraction(1, 2 ** 40) for width in box_widths(small)))
                    other = widened(narrowed(system, box, A, 12))
                    B = single_paper(system, other)
                    self.assertTrue(B is None or same_zero(system, box, A, other, B))
                    is_cover(system, box, maker.matrix(n, n))

    def test_flat_slopes_in_four_variables(self):
        system = system_of(4, *[f"{name}^3 + 1/999999*{name}" for name in "xyzu"])
        A = tuple(tuple(num(1, 4) if i == j else num(0) for j in range(4)) for i in range(4))
        box = around([0] * 4, 1)
        self.assertTrue(is_single(system, box, A))
        narrowed(system, box, A, 40)

    def test_searches(self):
        maker = Maker(35)
        for n, depth in ((1, 6), (2, 5), (3, 3), (4, 1)):
            for box in (figured_box(maker, n), around([Fraction(1, 3)] * n, Fraction(7, 3)), around([0] * n, 1)):
                system = tuple(figured(maker, n, 15, 3) for _ in range(n))
                tree = search(system, box, depth)
                self.assertTrue(check_tree(system, box, tree))
                zeros_within(system, box, depth)
                hunt = Hunt(system, box, depth)
                while not hunt.is_done():
                    hunt.work(hunt.open_places()[-1])
                self.assertEqual(restored(system, box, depth, hunt.text()).tree(), tree)
                if all(len(str(x)) < 60 for x in numbers_in(tree)):
                    text = write_claim(system, box, tree)
                    self.assertEqual(read_claim(text), (system, box, tree))
                    self.assertIsNotNone(judged(text))

    def test_many_zeros(self):
        for n, depth in ((1, 6), (2, 5), (3, 3)):
            system = system_of(n, *[f"{name}^3 - {name}" for name in "xyz"[:n]])
            box = box_of(*[(Fraction(-123457, 98765), Fraction(135791, 98765))] * n)
            zeros_within(system, box, depth)
            tree = search(system, box, depth)
            self.assertEqual(len(different(system, told(box, tree))), len(zeros_within(system, box, depth)[0]))

    def test_trees_with_a_hundred_leaves(self):
        maker = Maker(36)
        for n in (1, 2, 3, 4):
            system, point = with_zero(maker, n, n, 4)
            found = certified(system, point)
            if found is None:
                continue
            box, A = found
            # The widened box is that with the paper.
            half = around([q(x) for x in box_middle(box)], q(box_widths(box)[0]) / 4)
            tree = nested(99, lambda v: ("halve", 0, ("rest",), v or ("rest",)))
            self.assertFalse(check_tree(system, half, tree))
            self.assertEqual([tree_counts(tree), tree_depth(tree)], [(0, 0, 100, 99), 99])
            self.assertTrue(check_tree(system, half, ("single", A)))
            deep = nested(40, lambda v: ("halve", n - 1, v or ("rest",), ("rest",)))
            self.assertTrue(check_tree(system, half, deep))
            self.assertEqual(len(rest(half, deep)), 41)


class Paths(Soon):
    def test_tubes(self):
        maker = Maker(37)
        made = 0
        for n, most in ((1, 8), (2, 3)):
            for _ in range(6):
                family, point = with_zero(maker, n, n + 1, 4)
                start = tuple(fixed(n + 1, p, n, (0, 1)) for p in family)
                found = certified(start, point)
                if found is None:
                    continue
                word, tube = track(n, family, found[0], found[1], most)
                if tube:
                    made += 1
                    self.assertTrue(check_tube(n, family, tube))
                    end_boxes(n, family, tube, 40)
                    middle = num((q(tube[0][0]) + q(tube[-1][1])) / 2)
                    zero_at(n, family, tube, middle, 40)
                    first, second = cut(tube, middle)
                    self.assertTrue(check_tube(n, family, joined(first, second)))
        self.assertGreater(made, 3)


def from_order(maker, n, low, most, point, terms=15):
    """A polynomial with exponents as great as told and no terms of degrees less than low at a point."""
    exponents = [e for e in itertools.product(range(most + 1), repeat=n) if sum(e) >= low]
    maker.random.shuffle(exponents)
    p = tuple((e, maker.figures(6)) for e in sorted(exponents[:terms]))
    return moved(n, p, tuple((-a, b) for a, b in point))


class Multiple(Soon):
    def test_sizes(self):
        maker = Maker(38)
        for n, low, most, degrees in ((1, 3, 6, 5), (2, 2, 5, 5), (2, 3, 5, 5), (3, 2, 5, 3), (3, 1, 5, 3)):
            point = tuple(maker.figures(6) for _ in range(n))
            for many in (1, 2, 3):
                system = tuple(from_order(maker, n, low, most, point) for _ in range(many))
                self.assertGreaterEqual(dual_size(n, system, point, degrees), 1)
                multiplicity(n, system, point, degrees)
                deflated(n, system, point)

    def test_without_an_end(self):
        for n, degrees in ((1, 5), (2, 5), (3, 3)):
            self.assertIsNone(multiplicity(n, ((),), ((0, 1),) * n, degrees))

    def test_four_polynomials_to_deflate(self):
        maker = Maker(39)
        point = tuple(maker.figures(6) for _ in range(3))
        first, second = (from_order(maker, 3, 1, 1, point) for _ in range(2))
        plain = (first, second, added(first, second), ())
        system = tuple(added(p, from_order(maker, 3, 2, 5, point)) for p in plain)
        self.assertEqual(rank(jacobian(3, system, point)), 2)
        self.assertEqual(len(deflated(3, system, point)), 8)

    def deflate(self, system, point):
        k = multiplicity(2, system, point, 8)
        self.assertIn(k, range(2, 10))
        found = deflation(2, system, point, 3)
        steps = found or [system]
        while found is None and len(steps) < 4:
            steps.append(deflated(2, steps[-1], point))
        for step in steps:
            self.assertLessEqual(len(step), 100)
            rank(jacobian(2, step, point))
            self.assertIn(multiplicity(2, step, point, 5), (None,) + tuple(range(1, k + 1)))
        if found is not None:
            part = regular_part(2, found[-1], point)
            single_paper(part, around([q(x) for x in point], Fraction(1, 1000)))

    def test_deflations(self):
        maker = Maker(40)
        point = (maker.figures(6), maker.figures(6))
        for low in (2, 3):
            self.deflate(tuple(from_order(maker, 2, low, 5, point, 36) for _ in range(2)), point)
            self.deflate(tuple(from_order(maker, 2, low, 5, point, 36) for _ in range(3)), point)
        for low in (3, 5):
            line = moved(2, (((0, 1), (7, 3)),), tuple((-a, b) for a, b in point))
            first = added(line, from_order(maker, 2, 2, 5, point, 36))
            self.deflate((first, from_order(maker, 2, low, 5, point, 36)), point)

    def test_deflations_in_one_variable(self):
        maker = Maker(41)
        point = (maker.figures(6),)
        for low in (2, 4, 5):
            system = tuple(from_order(maker, 1, low, 6, point) for _ in range(2))
            self.assertEqual(multiplicity(1, system, point, 5), low)
            self.assertIs(deflation(1, system, point, 3) is None, low > 4)

    def test_all_polynomials(self):
        maker = Maker(42)
        for n, terms, most in ((1, 25, 24), (2, 625, 24), (3, 1000, 9), (3, 15, 4)):
            point = tuple(maker.figures(4) for _ in range(n))
            table = {}
            while len(table) < terms:
                table[tuple(maker.random.randint(0, most) for _ in range(n))] = (maker.figures(15)[0], 1)
            p = tuple((e, table[e]) for e in sorted(table))
            p = subtracted(p, constant(n, value_at(p, point)))
            self.assertEqual(multiplicity(n, (p,), point, 2), 1 if n == 1 else None)


def in_rows(maker, n, k, d):
    """A polynomial with fifteen terms of which the degree in the variable k is d."""
    table = {}
    while len(table) < min(15, 5 ** (n - 1) * (d + 1)):
        exponents = [maker.random.randint(0, 4) for _ in range(n)]
        exponents[k] = maker.random.randint(0, d) if table else d
        table[tuple(exponents)] = maker.figures(6)
    return tuple((e, table[e]) for e in sorted(table))


class Eliminating(Soon):
    def test_six_rows(self):
        maker = Maker(43)
        for n, k in ((2, 1), (3, 0), (4, 2)):
            for d, e in ((3, 3), (4, 2), (2, 4), (1, 4), (4, 0)):
                p, r = in_rows(maker, n, k, d), in_rows(maker, n, k, e)
                self.assertTrue(resultant(n, p, r, k))
                paper = elimination_paper(n, p, r, k)
                if paper is not None:
                    self.assertTrue(check_elimination(n, p, r, k, paper))

    def test_plane(self):
        maker = Maker(44)
        for d, e in ((3, 3), (4, 2), (1, 4)):
            p, r = (tuple(term for term in in_rows(maker, 2, 1, top) if term[0][1] < top) for top in (d, e))
            p, r = added(p, (((0, d), maker.figures(6)),)), added(r, (((0, e), maker.figures(6)),))
            self.assertTrue(is_upright(p) and is_upright(r))
            self.assertEqual(sum(k * degree(f) for k, f in column_counts(p, r)), zero_count(p, r))
            zeros_above(p, r, maker.figures(6))

    def test_sums(self):
        maker = Maker(45)
        for _ in range(3):
            p, r = (maker.dense(1, 3, lambda: maker.figures(15)) for _ in range(2))
            for s in roots_of(p):
                for t in roots_of(r):
                    self.assertTrue(is_root(sum_of_roots(s, t)))
                    self.assertTrue(is_root(product_of_roots(s, t)))


class Walks(Soon):
    def test_walks(self):
        maker = Maker(46)
        made = 0
        for _ in range(12):
            system = tuple(figured(maker, 2, 15, 4) for _ in range(2))
            for box in (figured_box(maker, 2), around([Fraction(1, 3)] * 2, Fraction(7, 3))):
                found = walk(system, box, 7)
                if found is not None:
                    made += 1
                    self.assertTrue(check_walk(system, box, found))
                    self.assertEqual(least_zeros(system, box, 7), abs(winding(found)))
        self.assertGreater(made, 3)

    def test_zero_on_the_boundary(self):
        maker = Maker(47)
        system, point = with_zero(maker, 2, 2, 4)
        box = tuple((x, num(q(x) + 1)) for x in point)
        self.assertIsNone(walk(system, box, 7))


def fair_pair(maker, d, e, point):
    """Two polynomials of these degrees in both variables, with a zero at a point."""
    found = []
    for top in (d, e):
        inner = [i for i in itertools.product(range(top), repeat=2)]
        maker.random.shuffle(inner)
        table = {i: maker.figures(6) for i in inner[:13]}
        table[(0, top)], table[(top, 0)] = maker.figures(6), maker.figures(6)
        p = tuple((i, table[i]) for i in sorted(table))
        found.append(subtracted(p, constant(2, value_at(p, point))))
    return found


class WholePlane(Soon):
    def test_rational_roots(self):
        maker = Maker(51)
        for p in (
            maker.dense(1, 25, lambda: maker.figures(15)), from_factors(*[[-1, 3]] * 25), uni(*[0] * 25, 1),
            from_factors(*[[-a, b] for a, b in (maker.figures(15) for _ in range(25))]),
            from_factors(*[[-k, 1] for k in range(-12, 13)]), from_factors([-1, 10 ** 15 - 1], [-2, 0, 10 ** 15 - 1], [1] * 22),
        ):
            rational_roots(p)

    def test_pairs(self):
        maker = Maker(52)
        for d, e in ((3, 3), (2, 4), (4, 2), (1, 4), (2, 3)):
            point = (maker.figures(6), maker.figures(6)) if d == 2 else maker.point(2)
            p, r = fair_pair(maker, d, e, point)
            self.assertTrue(is_fair(p, r))
            self.assertGreaterEqual(zero_count(p, r), d * e)
            self.assertEqual(frame(exchanged(p), exchanged(r)), frame(p, r)[::-1])
            self.assertIn(point, rational_zeros(p, r))
            self.assertIn((point, 1), counted_zeros(p, r))
            if max(d, e) < 4:
                boxes, left, count = plane_zeros(p, r, 5)
                self.assertLessEqual(len(boxes), count)

    def test_multiple_zeros(self):
        maker = Maker(53)
        point = (maker.figures(6), maker.figures(6))
        p, r = (from_order(maker, 2, 3, 3, point) for _ in range(2))
        p, r = (tuple(term for term in moved(2, f, point) if sum(term[0]) < 4) for f in (p, r))
        back = tuple((-a, b) for a, b in point)
        more = [(((0, 3), maker.figures(6)), ((3, 0), maker.figures(6))) for _ in range(2)]
        p, r = (moved(2, added(f, g), back) for f, g in zip((p, r), more))
        self.assertEqual(counted_zeros(p, r), [(point, 9)])
        # Both curves stay near to each other for long.
        p, r = system_of(2, "y - x^4", "y^4 + 1/999983*x^12")
        self.assertEqual(counted_zeros(p, r)[0][1], 12)


class LeastValues(Soon):
    def test_papers(self):
        maker = Maker(54)
        for n, depth in ((1, 6), (2, 5), (3, 3), (1, 12), (2, 10), (3, 9)):
            for _ in range(2):
                p = figured(maker, n, 15, 3)
                box = figured_box(maker, n)
                paper = least(p, box, (10 ** 60, 1), depth)
                self.assertTrue(check_least(p, box, paper))
                least(p, box, (0, 1), depth)
                deep = nested(99, lambda v: ("halve", n - 1, ("over",), v or ("over",)))
                self.assertFalse(check_least(p, box, (paper[0], paper[1], deep)))
                deep = nested(40, lambda v: ("halve", n - 1, ("over",), v or ("over",)))
                self.assertTrue(check_least(p, box, (paper[0], paper[1], deep)))

    def test_critical_points(self):
        maker = Maker(55)
        for n, depth in ((1, 6), (2, 5), (3, 3)):
            for most in (3, 4):
                p = figured(maker, n, 15, most)
                hessian(n, p)
                for box in (figured_box(maker, n), around([0] * n, 1)):
                    shape_over(p, box)
                    critical_boxes(n, p, box, depth)


class Claims(Soon):
    def test_no_polynomial_is_multiplied_out(self):
        start = "variables 4\n" + "polynomial x\n" * 3 + "polynomial "
        for formula in ("((x + y + z + u + 1)^12)^12", "(x + y + z + u)^12*(x + y + z + u + 7)^12"):
            for text in (start + formula + "\nbox [0,1] [0,1] [0,1] [0,1]\ntree rest\n", start + formula):
                self.assertRaises(BadText, read_claim, text)
                self.assertRaises(BadText, judged, text)


class OnTheLine(Soon):
    def test_signs(self):
        maker = Maker(56)
        rows = [maker.dense(1, 25, lambda: maker.figures(15)) for _ in range(4)]
        rows += [multiplied(rows[0], rows[0]), from_factors(*[[-k, 1] for k in range(1, 13)]), rows[1]]
        found = marks(rows)
        self.assertEqual(len(samples(rows)), 2 * len(found) + 1)
        self.assertEqual(len(sign_table(rows)), 2 * len(found) + 1)
        conditions = [(p, word) for p, word in zip(rows, ("<=", ">=", "<>", "<", ">=", ">", ">="))]
        cells = cells_that_meet(conditions)
        self.assertEqual(solution(conditions) is None, not cells)


class Desks(Soon):
    def test_all_commands(self):
        maker = Maker(57)
        for n, depth in ((1, 6), (2, 5), (3, 3), (4, 1)):
            lines = [f"variables {n}"]
            lines += ["polynomial " + write_polynomial(n, figured(maker, n, 15, 3)) for _ in range(n)]
            lines += ["box " + " ".join(f"[{q(low)},{q(high)}]" for low, high in figured_box(maker, n))]
            lines += ["show", f"tree {depth}", f"count {depth}", "winding 7", "multiplicity 5" + " 0" * n, "resultant", "frame", "rational"]
            lines += ["at" + " -999999/999998" * n, "roots", f"least 1/3 {depth}", "shape"]
            self.assertTrue(run_desk("\n".join(lines)))


if __name__ == "__main__":
    unittest.main()

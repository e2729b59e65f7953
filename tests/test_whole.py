"""Promise [0.1] and those that hold between modules: known systems, looked at in several ways."""

import itertools
import unittest
from fractions import Fraction

from helpers import Maker, around, box_of, from_factors, iv, num, q, system_of, uni, value
from rootfast.boxes import box_has, box_meeting, box_middle, box_within, halves
from rootfast.claims import judged, read_claim, write_claim
from rootfast.combs import comb, comb_count
from rootfast.critical import critical_boxes, gradient
from rootfast.elimination import column_counts, resultant, zero_count, zeros_above
from rootfast.hunts import Hunt
from rootfast.least import check_least, least, least_between
from rootfast.matrices import determinant
from rootfast.multiple import deflation, multiplicity, regular_part
from rootfast.papers import free_index, is_single, narrowed, single_paper
from rootfast.paths import check_tube, end_boxes, straight, track
from rootfast.plane import counted_zeros, frame, is_fair, plane_zeros, rational_roots, rational_zeros
from rootfast.polynomials import multiplied
from rootfast.real import count_roots, isolated, root_bound
from rootfast.roots import compare_root, compare_roots, near, roots_of, sign_at
from rootfast.signs import marks, sign_table
from rootfast.single import parts
from rootfast.sums import product_of_roots, sum_of_roots
from rootfast.systems import jacobian
from rootfast.trees import check_tree, different, rest, search, told, zeros_within
from rootfast.winding import least_zeros, walk, winding

# Fair pairs, all of whose zeros are real, regular and rational.
GRIDS = [
    ("(x - y)*(x + y - 1)", "(x + 2*y)*(x - 3*y + 2)"), ("(x + y)*(x - y)", "x + 2*y - 3"), ("y - x^2 + 1", "y + x^2 - 1"),
    ("x^2 + y^2 - 5", "y - x + 1"), ("x^2 + y^2 - 25", "3*y^2 - 3*x^2 - 21"), ("2*x + y - 1", "x - 3*y"),
]
# Fair pairs with a multiple zero, all of whose zeros are rational.
MULTIPLE = [
    ("(x - y)^2", "x + y - 2"), ("y - x^2", "y + x^2"), ("y - x^3", "y + x^3"), ("(x - y)*(x + y)", "(x - 2*y)*(x + 3*y)"),
    ("(x - y)*(x + y - 2)", "(x - 2*y + 1)*(x + y - 3)"), ("y - x^2", "y - 2*x + 1"), ("(x - y)^2", "(x + y)^3"),
]
OTHERS = [
    ("x^2 + y^2 - 2", "x^3 - y"), ("x^2 + y^2 - 3", "2*x - y^2"), ("x^2 + y^2 - 1", "x^2 - y - 3/7"), ("x^3 - 3*x*y^2 - 1", "3*x^2*y - y^3"), ("x*y - 1/3", "x - y^2 + 1/5"),
]


def determinant_sign(system, wide, A):
    """The sign of the determinant of the Jacobian matrix at the zero in a box with a single paper."""
    middle = box_middle(narrowed(system, wide, A, 60))
    return 1 if determinant(jacobian(2, system, middle))[0] > 0 else -1


class AllZeros(unittest.TestCase):
    def test_multiplicities_beside_the_number_of_zeros(self):
        for texts in GRIDS + MULTIPLE:
            p, r = system_of(2, *texts)
            zeros = counted_zeros(p, r)
            self.assertEqual(sum(k for point, k in zeros), zero_count(p, r), texts)
            for point, k in zeros:
                self.assertEqual(multiplicity(2, (p, r), point, 8), k)
                self.assertEqual(k == 1, determinant(jacobian(2, (p, r), point))[0] != 0)
            # The columns have them all, too.
            for k, f in column_counts(p, r):
                for x in rational_roots(f):
                    self.assertEqual(sum(m for point, m in zeros if point[0] == x), k)
                    above = rational_roots(zeros_above(p, r, x))
                    self.assertEqual(above, [point[1] for point, m in zeros if point[0] == x])

    def test_searches_beside_the_number_of_zeros(self):
        for texts in GRIDS:
            p, r = system_of(2, *texts)
            points = rational_zeros(p, r)
            # All zeros lie in this box, and none where it is cut.
            box = box_of((-5 - Fraction(1, 7), 5 + Fraction(2, 11)), (-5 - Fraction(1, 13), 5 + Fraction(3, 7)))
            tree = search((p, r), box, 22)
            boxes = different((p, r), told(box, tree))
            self.assertEqual([len(boxes), rest(box, tree)], [zero_count(p, r), []], texts)
            for point in points:
                self.assertEqual(sum(box_has(small, point) for small in boxes), 1)
                self.assertTrue(box_has(frame(p, r), point))
            inner, edge, left = zeros_within((p, r), box, 22)
            self.assertEqual([len(inner), edge, left], [len(points), [], []])
            boxes, left, count = plane_zeros(p, r, 6)
            self.assertLessEqual(len(boxes), count)

    def test_zeros_are_roots_of_the_resultants(self):
        for texts in OTHERS:
            p, r = system_of(2, *texts)
            box = box_of((-2, 2), (-2, 2))
            for wide, A in told(box, search((p, r), box, 9)):
                small = narrowed((p, r), wide, A, 30)
                for k in (0, 1):
                    found = roots_of(resultant(2, p, r, 1 - k))
                    low, high = small[k]
                    here = [s for s in found if compare_root(s, low) >= 0 and compare_root(s, high) <= 0]
                    self.assertEqual(len(here), 1)

    def test_all_real_zeros_are_found(self):
        for texts in OTHERS[:2] + GRIDS:
            p, r = system_of(2, *texts)
            boxes, left, count = plane_zeros(p, r, 9)
            columns = roots_of(resultant(2, p, r, 1))
            for small in boxes:
                near_x = [near(s, 40) for s in columns]
                self.assertTrue(any(q(i[0]) <= q(small[0][1]) and q(small[0][0]) <= q(i[1]) for i in near_x))
            self.assertLessEqual(len(boxes), count)


class Windings(unittest.TestCase):
    def test_beside_single_papers(self):
        made = 0
        for texts in GRIDS + OTHERS:
            system = system_of(2, *texts)
            box = box_of((-Fraction(11, 3), Fraction(13, 3)), (-Fraction(15, 4), 4))
            for wide, A in told(box, search(system, box, 12)):
                self.assertIs(is_single(system, wide, A), True)
                found = walk(system, wide, 7)
                if found is not None:
                    made += 1
                    self.assertEqual(winding(found), determinant_sign(system, wide, A))
                    self.assertEqual(least_zeros(system, wide, 7), 1)
        self.assertGreater(made, 20)

    def test_sum_over_the_told_zeros(self):
        for texts in GRIDS + OTHERS:
            system = system_of(2, *texts)
            box = box_of((-Fraction(41, 3), Fraction(43, 3)), (-Fraction(45, 4), 14))
            whole = walk(system, box, 12)
            tree = search(system, box, 14)
            if whole is None or rest(box, tree):
                continue
            small = different(system, told(box, tree))
            papers = [(b, single_paper(system, b)) for b in small]
            signs = [1 if determinant(jacobian(2, system, box_middle(b)))[0] > 0 else -1 for b, A in papers]
            self.assertEqual(winding(whole), sum(signs), texts)
            self.assertLessEqual(least_zeros(system, box, 12), len(small))

    def test_parts(self):
        for texts in GRIDS + OTHERS:
            system = system_of(2, *texts)
            box = box_of((-3, Fraction(10, 3)), (-Fraction(11, 4), 3))
            for k in (0, 1):
                walks = [walk(system, part, 9) for part in (box,) + halves(box, k)]
                if None not in walks:
                    self.assertEqual(winding(walks[0]), winding(walks[1]) + winding(walks[2]))

    def test_without_zeros(self):
        for texts in GRIDS + OTHERS:
            system = system_of(2, *texts)
            for x, y in itertools.product(range(-6, 7, 3), repeat=2):
                box = around((Fraction(x) + Fraction(1, 7), y), Fraction(1, 3))
                found = walk(system, box, 8)
                if free_index(system, box) is not None and found is not None:
                    self.assertEqual(winding(found), 0)


class Claims(unittest.TestCase):
    def test_told_boxes_beside_claims(self):
        for texts in GRIDS + MULTIPLE + OTHERS:
            system = system_of(2, *texts)
            box = box_of((-3, 3), (-2, 4))
            for depth in (0, 2, 5):
                tree = search(system, box, depth)
                text = write_claim(system, box, tree)
                self.assertEqual(read_claim(text), (system, box, tree))
                zeros = different(system, told(box, tree))
                self.assertEqual(judged(text), (len(zeros), len(rest(box, tree))))
                hunt = Hunt(system, box, depth)
                while not hunt.is_done():
                    hunt.work(hunt.open_places()[0])
                self.assertEqual(write_claim(system, box, hunt.tree()), text)
                # The same tree is a wrong one for a system with other zeros, where it tells any.
                other = system[:1] + (multiplied(system[1], uni_in_two(-1)),)
                self.assertIs(judged(write_claim(other, box, tree)) is None, not check_tree(other, box, tree))


def uni_in_two(x):
    """The polynomial x less a number, in two variables."""
    return (((0, 0), num(-x)), ((1, 0), (1, 1)))


class MultipleZeros(unittest.TestCase):
    def test_deflation_leads_to_single_papers(self):
        for texts in MULTIPLE:
            system = system_of(2, *texts)
            for point, k in counted_zeros(*system):
                steps = deflation(2, system, point, 4 if k < 4 else 2)
                if steps is None:
                    continue
                sizes = [multiplicity(2, step, point, 8) for step in steps]
                self.assertEqual([sizes[0], sizes[-1]], [k, 1])
                self.assertEqual(sizes, sorted(sizes, reverse=True))
                part = regular_part(2, steps[-1], point)
                boxes = [around([q(c) for c in point], Fraction(1, 2 ** bits)) for bits in (2, 6, 12)]
                papers = [single_paper(part, box) for box in boxes]
                self.assertIsNotNone(papers[-1])
                self.assertTrue(box_has(narrowed(part, boxes[-1], papers[-1], 40), point))

    def test_one_variable(self):
        for factors in (([1, 1],) * 3 + ([-2, 1],), ([0, 1],) * 2 + ([-1, 3],) * 4, ([-2, 0, 1],) + ([5, 2],) * 2):
            p = from_factors(*factors)
            told_parts = {k: f for k, f in parts(p)}
            for x in rational_roots(p):
                k = multiplicity(1, (p,), (x,), 8)
                self.assertEqual(value(told_parts[k], [q(x)]), 0)
                self.assertEqual(len(deflation(1, (p,), (x,), 4)), k)


class Line(unittest.TestCase):
    def test_one_variable_in_many_ways(self):
        maker = Maker(201)
        for _ in range(40):
            p = uni(*[maker.random.randint(-9, 9) for _ in range(5)], 1)
            b = root_bound(p)
            found = roots_of(p)
            self.assertEqual(len(found), count_roots(p, (-b, 1), (b, 1)))
            self.assertEqual(len(found), len(isolated(p)))
            self.assertEqual(len(marks([p, p])), len(found))
            simple = all(k == 1 for k, f in parts(p))
            if simple:
                self.assertEqual(comb_count(p, (-b, 1), (b, 1), comb(p, (-b, 1), (b, 1), 40)), len(found))
                tree = search((p,), (iv(-b - Fraction(1, 7), b),), 20)
                self.assertEqual(len(different((p,), told((iv(-b - Fraction(1, 7), b),), tree))), len(found))
            table = sign_table([p])
            self.assertEqual([row[0] == 0 for row in table], [False, True] * len(found) + [False])
            for (interval, k), before, behind in zip(isolated(p), table[::2], table[2::2]):
                self.assertEqual(before[0] == behind[0], k % 2 == 0)

    def test_sums_of_all_roots(self):
        # Vieta: the roots of x^3 + a x^2 + b x + c add up to -a and have the product -c.
        for a, b, c in ((-6, 11, -6), (0, -3, 1), (0, -7, Fraction(1, 3)), (1, -2, -1)):
            found = roots_of(uni(c, b, a, 1))
            self.assertEqual(len(found), 3)
            two = sum_of_roots(found[0], found[1])
            self.assertEqual(compare_roots(two, roots_of(uni(*minus_shifted(c, b, a)))[0]), 0)
            self.assertEqual(compare_root(product_of_roots(product_of_roots(found[0], found[1]), found[2]), num(-c)), 0)
            self.assertEqual(sign_at(uni(c, b, a, 1), found[1]), 0)


def minus_shifted(c, b, a):
    """The coefficients of the polynomial whose roots are -a less a root of x^3 + a x^2 + b x + c."""
    # p at -a - x, with the sign changed.
    x = (Fraction(-a), Fraction(-1))
    square = (x[0] ** 2, 2 * x[0] * x[1], x[1] ** 2)
    cube = (x[0] ** 3, 3 * x[0] ** 2 * x[1], 3 * x[0] * x[1] ** 2, x[1] ** 3)
    total = [cube[k] + a * (square + (0,))[k] + b * (x + (0, 0))[k] + (c if k == 0 else 0) for k in range(4)]
    return [-t for t in total]


class Paths(unittest.TestCase):
    def test_ends_are_told_zeros(self):
        start = system_of(2, "x^2 - 1", "y - 1")
        goal = system_of(2, "x^2 + y^2 - 5", "y - x + 1")
        family = straight(2, start, goal)
        for x, end in ((1, (2, 1)), (-1, (-1, -2))):
            box = around((x, 1), Fraction(1, 4))
            A = single_paper(start, box)
            word, tube = track(2, family, box, A, 100)
            self.assertEqual(word, "whole")
            self.assertIs(check_tube(2, family, tube), True)
            first, last = end_boxes(2, family, tube, 30)
            self.assertTrue(box_has(first, (num(x), num(1))))
            self.assertTrue(box_has(last, tuple(num(c) for c in end)))
            self.assertIn(tuple(num(c) for c in end), rational_zeros(*goal))


class LeastValues(unittest.TestCase):
    def test_critical_boxes_beside_least_papers(self):
        for n, text, box, depth in (
            (1, "x^4 - 3*x^2 + x", (iv(-2, 2),), 5), (2, "x^2 + x*y + y^2 - x", box_of((-2, 3), (-2, 2)), 4),
            (2, "x^4 + y^2 - x^2", box_of((-Fraction(3, 2), 2), (-1, 1)), 9),
        ):
            p, = system_of(n, text)
            paper = least(p, box, num(8), depth)
            self.assertIs(check_least(p, box, paper), True)
            low, high = least_between(p, paper)
            lowest = []
            for wide, word in critical_boxes(n, p, box, depth):
                A = single_paper(gradient(n, p), wide)
                small = narrowed(gradient(n, p), wide, A, 30)
                middle = [q(x) for x in box_middle(small)]
                if word == "least":
                    lowest.append(value(p, middle))
                    if box_within(small, box):
                        self.assertGreaterEqual(value(p, middle), q(low))
                    for corner in itertools.product((-1, 0, 1), repeat=n):
                        moved = [x + Fraction(c, 1000) for x, c in zip(middle, corner)]
                        if any(corner):
                            self.assertGreater(value(p, moved), value(p, middle))
            self.assertTrue(lowest)
            self.assertLessEqual(min(lowest), q(high) + Fraction(1, 100))


class Guarantee(unittest.TestCase):
    def test_every_zero_lies_in_a_told_box_or_in_the_rest(self):
        for texts in GRIDS + MULTIPLE:
            system = system_of(2, *texts)
            box = box_of((-3, 3), (-3, 3))
            for depth in range(7):
                tree = search(system, box, depth)
                self.assertIs(check_tree(system, box, tree), True)
                for point in rational_zeros(*system):
                    if box_has(box, point):
                        here = [wide for wide, A in told(box, tree) if box_has(wide, point)]
                        self.assertTrue(here or any(box_has(part, point) for part in rest(box, tree)))
                for first, second in itertools.combinations(different(system, told(box, tree)), 2):
                    self.assertIsNone(box_meeting(first, second))

    def test_fair_pairs(self):
        for texts in GRIDS + MULTIPLE + OTHERS[:2]:
            self.assertIs(is_fair(*system_of(2, *texts)), True)


if __name__ == "__main__":
    unittest.main()

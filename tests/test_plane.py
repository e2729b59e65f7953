"""Promises [15.1] to [15.4]: rational roots, and all zeros of two polynomials in the plane."""

import itertools
import unittest
from fractions import Fraction

from helpers import Maker, box_of, from_factors, iv, num, q, system_of, uni, value
from rootfast.boxes import box_has, box_meeting, is_box
from rootfast.elimination import column_counts, resultant, zero_count
from rootfast.errors import Endless, NotUpright
from rootfast.multiple import multiplicity
from rootfast.plane import (
    counted_zeros, exchanged, frame, is_fair, plane_zeros, rational_roots, rational_zeros,
)
from rootfast.polynomials import is_polynomial, multiplied
from rootfast.real import root_bound
from rootfast.single import simple_part
from rootfast.texts import read_polynomial
from rootfast.trees import different, rest, search, told

CIRCLE, LINE = system_of(2, "x^2 + y^2 - 2", "x - y")

# Pairs that are not fair, each by one of the four polynomials, by several, or by the resultant alone.
NOT_UPRIGHT = [
    ("x*y + x^2", "x - y"), ("x^2 + 1", "x - y"), ("x - y", "x*y^2 + y + x"), ("x - y", "x - 3"), ("x*y + y^2", "x - y"),
    ("y^2 + 1", "x - y"), ("x - y", "y*x^2 + y + x"), ("x - y", "y - 3"), ("0", "x - y"), ("x - y", "0"), ("0", "0"),
    ("1", "x - y"),
    ("x", "y"), ("x*y - 1", "x + y"), ("y - x*y^2 + x", "x - y"), ("x + y + x*y^3", "x + y"),
    ("x^2 - 2", "x - y"),
]
ENDLESS = [
    ("x - y", "x - y"), ("(x - y)*(x + 2*y)", "(x - y)*(x + 1 + y)"), ("x^2 + y^2", "3*x^2 + 3*y^2"), ("x^2 - y^2", "x + y"),
]
BOTH = [("x*y", "x*y"), ("x", "x"), ("0", "0"), ("x*(x - y)", "y*(x - y)"), ("y", "y"), ("x*y + x", "y + 1")]

# Fair pairs with their rational zeros, the multiplicities and the number of all zeros.
FAIR = [
    (("x^2 + y^2 - 2", "x - y"), [(-1, -1, 1), (1, 1, 1)], 2),
    (("x^2 + y^2 - 1", "x - y"), [], 2),
    (("x^2 + y^2 + 1", "x - y"), [], 2),
    (("x + y", "x + y + 1"), [], 0),
    (("y - x^2", "y + x^2"), [(0, 0, 2)], 2),
    (("x + y^2", "x - y^3"), [(-1, -1, 1), (0, 0, 2)], 3),
    (("y^2 + x - 2", "y^2 - 2*x + 4"), [(2, 0, 2)], 2),
    (("x^2 - y^2", "2*x + y - 3"), [(1, 1, 1), (3, -3, 1)], 2),
    (("x^2 + x*y + y^2", "x + 2*y"), [(0, 0, 2)], 2),
    (("(x - y)*(x + y)", "(x - 2*y)*(x^2 + y^2 + 1)"), [(0, 0, 2)], 6),
    (("y - x^3 + 2*x", "y + x"), [(-1, 1, 1), (0, 0, 1), (1, -1, 1)], 3),
    (("y - x^3", "y^2 + x^3 - 2*y"), [(0, 0, 3), (1, 1, 1)], 6),
    (("(x^2 + y^2 - 2)*(2*x - y)", "(x - y)*(2*x + 2*y + 1)"), [
        (Fraction(-1), -1, 1), (Fraction(-1, 6), Fraction(-1, 3), 1), (0, 0, 1), (1, 1, 1)], 6),
    (("3*y - x^4", "y + x^4"), [(0, 0, 4)], 4),
    (("(y - x)^2", "(y + x)^3"), [(0, 0, 6)], 6),
]


class RationalRoots(unittest.TestCase):
    def test_known_ones(self):
        self.assertEqual(rational_roots(uni(-1, 1, 2)), [num(-1), num(1, 2)])
        for p, expected in (
            (uni(7), []), (uni(0, 1), [0]), (uni(0, 0, 0, 5), [0]), (uni(-2, 0, 1), []), (uni(1, 0, 1), []),
            (uni(-3, 2), [Fraction(3, 2)]),
            (uni(0, -2, 0, 1), [0]), (from_factors([-2, 0, 1], [1, 3], [1, 3], [-5, 1]), [Fraction(-1, 3), 5]),
            (uni(Fraction(1, 6), Fraction(-5, 6), 1), [Fraction(1, 3), Fraction(1, 2)]), (uni(-1, 0, 0, 0, 0, 0, 1), [-1, 1]),
            (uni(Fraction(-4, 9), 0, Fraction(1, 3)), []),
            (uni(Fraction(-4, 27), 0, Fraction(1, 3)), [Fraction(-2, 3), Fraction(2, 3)]),
        ):
            self.assertEqual(rational_roots(p), [num(x) for x in expected])

    def test_great_multiplicities(self):
        self.assertEqual(rational_roots(from_factors(*[[-1, 3]] * 25)), [num(1, 3)])
        self.assertEqual(rational_roots(from_factors(*[[0, 1]] * 12, *[[7, 1]] * 9, [-2, 0, 1], [-2, 0, 1])), [num(-7), num(0)])

    def test_products(self):
        maker = Maker(151)
        for _ in range(150):
            roots = {maker.number() for _ in range(maker.random.randint(0, 5))}
            factors = [[-a, b] for a, b in roots for _ in range(maker.random.randint(1, 3))]
            factors += [[maker.random.choice((2, 3, 5, -2, -7)), maker.random.choice((0, 1)), 11]] * maker.random.randint(0, 2)
            factors += [[-2, 0, 0, 3]] * maker.random.randint(0, 1) + [[-5, 1, 0, 0, 2]] * maker.random.randint(0, 1)
            p = from_factors([Fraction(3, 7)], *factors)
            found = rational_roots(p)
            self.assertIs(type(found), list)
            self.assertEqual(found, sorted(roots, key=q))

    def test_no_other_numbers(self):
        maker = Maker(152)
        for _ in range(200):
            p = uni(*[maker.random.randint(-6, 6) for _ in range(4)], maker.random.randint(1, 6))
            tried = {Fraction(a, b) for a in range(-6, 7) for b in range(1, 7)}
            expected = [x for x in sorted(tried) if value(p, [x]) == 0]
            self.assertEqual(rational_roots(p), [num(x) for x in expected])

    def test_great_numbers(self):
        maker = Maker(153)
        roots = sorted({maker.figures(15) for _ in range(12)}, key=q)
        p = from_factors(*[[-a, b] for a, b in roots], [-2, 0, 10 ** 15 + 1], [1, 10 ** 14, 0, 3])
        self.assertEqual(rational_roots(p), roots)
        # Roots that are near to each other and to irrational ones.
        near = [Fraction(10 ** 12 + k, 10 ** 12) for k in range(4)]
        p = from_factors(*[[-x, 1] for x in near], [-2 * 10 ** 24 - 1, 0, 2 * 10 ** 24])
        self.assertEqual(rational_roots(p), [num(x) for x in near])

    def test_same_roots_modulo_many_primes(self):
        step = 3 * 5 * 7 * 11 * 13 * 17 * 19 * 23
        roots = [k * step for k in range(-3, 4)]
        self.assertEqual(rational_roots(from_factors(*[[-x, 1] for x in roots])), [num(x) for x in roots])
        self.assertEqual(rational_roots(from_factors([-1, step], [1, step], [2, step])), [num(-2, step), num(-1, step), num(1, step)])


class Exchanging(unittest.TestCase):
    def test_known_ones(self):
        for text, other in (("x", "y"), ("x^2*y - 3*x + 1", "y^2*x - 3*y + 1"), ("0", "0"), ("7", "7"), ("x*y", "x*y")):
            self.assertEqual(exchanged(read_polynomial(2, text)), read_polynomial(2, other))

    def test_values(self):
        maker = Maker(154)
        for _ in range(60):
            p = maker.polynomial(2, 6, 3)
            other = exchanged(p)
            self.assertTrue(is_polynomial(2, other))
            x, y = q(maker.number()), q(maker.number())
            self.assertEqual(value(other, [x, y]), value(p, [y, x]))
            self.assertEqual(exchanged(other), p)


class Fairness(unittest.TestCase):
    def test_fair(self):
        for texts, _, _ in FAIR:
            p, r = system_of(2, *texts)
            for pair in ((p, r), (r, p), (exchanged(p), exchanged(r))):
                self.assertIs(is_fair(*pair), True, texts)

    def test_not_fair(self):
        for texts in NOT_UPRIGHT + ENDLESS + BOTH:
            p, r = system_of(2, *texts)
            for pair in ((p, r), (r, p), (exchanged(p), exchanged(r))):
                self.assertIs(is_fair(*pair), False, texts)

    def test_errors(self):
        calls = (frame, lambda p, r: plane_zeros(p, r, 1), rational_zeros, counted_zeros)
        for cases, error in ((NOT_UPRIGHT, NotUpright), (ENDLESS, Endless), (BOTH, NotUpright)):
            for texts in cases:
                p, r = system_of(2, *texts)
                for call in calls:
                    for pair in ((p, r), (r, p), (exchanged(p), exchanged(r))):
                        with self.assertRaises(error):
                            call(*pair)


def lines_product(maker, many):
    """A product of lines, of which none is parallel to an axis, and the list of these lines (a, b, c)."""
    lines = []
    for _ in range(many):
        lines.append((maker.random.choice((1, 2, -1, 3)), maker.random.choice((1, -1, 2, -3)), maker.random.randint(-3, 3) // 2))
    p = (((0, 0), (1, 1)),)
    for a, b, c in lines:
        terms = [((0, 0), num(c)), ((0, 1), num(b)), ((1, 0), num(a))]
        p = multiplied(p, tuple(term for term in terms if term[1][0] != 0))
    return p, lines


def crossings(first, second):
    """The table of the points at which lines of two lists meet, with the number of the pairs, or None for equal ones."""
    found = {}
    for (a, b, c), (d, e, f) in itertools.product(first, second):
        below = a * e - b * d
        if below == 0:
            if a * f == c * d and b * f == c * e:
                return None
            continue
        point = (Fraction(b * f - c * e, below), Fraction(c * d - a * f, below))
        found[point] = found.get(point, 0) + 1
    return found


class Frames(unittest.TestCase):
    def test_known_one(self):
        self.assertEqual(frame(CIRCLE, LINE), box_of((-2, 2), (-2, 2)))
        p, r = system_of(2, "y - x^2", "y^2 + x - 20")
        self.assertEqual(frame(p, r), box_of((-21, 21), (-401, 401)))
        self.assertEqual(frame(*system_of(2, "x + y", "x + y + 1")), box_of((-1, 1), (-1, 1)))

    def test_bounds_of_the_resultants(self):
        for texts, zeros, _ in FAIR:
            p, r = system_of(2, *texts)
            box = frame(p, r)
            b, c = root_bound(resultant(2, p, r, 1)), root_bound(resultant(2, p, r, 0))
            self.assertEqual(box, box_of((-b, b), (-c, c)))
            for x, y, k in zeros:
                self.assertTrue(-b < x < b and -c < y < c)

    def test_lines(self):
        maker = Maker(155)
        for _ in range(40):
            (p, first), (r, second) = (lines_product(maker, maker.random.randint(1, 3)) for _ in range(2))
            found = crossings(first, second)
            if found is None:
                with self.assertRaises(Endless):
                    frame(p, r)
                continue
            box = frame(p, r)
            self.assertTrue(is_box(2, box))
            for x, y in found:
                self.assertTrue(box_has(box, (num(x), num(y))))


class PlaneZeros(unittest.TestCase):
    def check(self, p, r, depth):
        boxes, left, count = found = plane_zeros(p, r, depth)
        self.assertEqual([type(found), type(boxes), type(left)], [tuple, list, list])
        box = frame(p, r)
        tree = search((p, r), box, depth)
        self.assertEqual(left, rest(box, tree))
        self.assertEqual(len(boxes), len(different((p, r), told(box, tree))))
        self.assertEqual(count, zero_count(p, r))
        for first, second in itertools.combinations(boxes, 2):
            self.assertIsNone(box_meeting(first, second))
        return found

    def test_known_one(self):
        boxes, left, count = self.check(CIRCLE, LINE, 8)
        self.assertEqual([len(boxes), left, count], [2, [], 2])
        self.assertEqual([any(box_has(box, (num(x), num(x))) for box in boxes) for x in (1, -1, 0)], [True, True, False])

    def test_depth_0(self):
        boxes, left, count = self.check(CIRCLE, LINE, 0)
        self.assertEqual([boxes, left, count], [[], [frame(CIRCLE, LINE)], 2])
        boxes, left, count = self.check(*system_of(2, "x + 2*y", "2*x - y"), 0)
        self.assertEqual([len(boxes), left, count], [1, [], 1])
        boxes, left, count = self.check(*system_of(2, "x + y", "x + y + 10"), 0)
        self.assertEqual([boxes, left, count], [[], [], 0])

    def test_each_zero_is_told_or_in_the_rest(self):
        for texts, zeros, many in FAIR:
            p, r = system_of(2, *texts)
            boxes, left, count = self.check(p, r, 5)
            self.assertEqual(count, many)
            for x, y, k in zeros:
                point = (num(x), num(y))
                here = [box for box in boxes if box_has(box, point)]
                self.assertLessEqual(len(here), 1)
                self.assertTrue(here or any(box_has(box, point) for box in left))
                self.assertTrue(k == 1 or not here)
            if len(boxes) == count:
                self.assertTrue(all(multiplicity(2, (p, r), (num(x), num(y)), 0) == 1 for x, y, k in zeros))

    def test_lines(self):
        maker = Maker(156)
        full = 0
        for many in (1, 2) * 8:
            (p, first), (r, second) = lines_product(maker, many), lines_product(maker, 2)
            found = crossings(first, second)
            if found is None:
                continue
            boxes, left, count = self.check(p, r, 9)
            for point in found:
                x = tuple(num(c) for c in point)
                inside = sum(box_has(box, x) for box in boxes)
                self.assertLessEqual(inside, 1 if found[point] == 1 else 0)
                self.assertTrue(inside or any(box_has(box, x) for box in left))
            for box in boxes:
                self.assertEqual(sum(box_has(box, tuple(num(c) for c in point)) for point in found), 1)
            full += len(boxes) == count > 0
        self.assertGreater(full, 0)


class RationalZeros(unittest.TestCase):
    def test_known_ones(self):
        for texts, zeros, many in FAIR:
            p, r = system_of(2, *texts)
            points = [(num(x), num(y)) for x, y, k in zeros]
            self.assertEqual(rational_zeros(p, r), points, texts)
            self.assertEqual(counted_zeros(p, r), [(point, k) for point, (x, y, k) in zip(points, zeros)], texts)
            self.assertEqual(zero_count(p, r), many)
            self.assertLessEqual(sum(k for x, y, k in zeros), many)

    def test_lines(self):
        maker = Maker(157)
        most = 0
        for _ in range(60):
            (p, first), (r, second) = (lines_product(maker, maker.random.randint(1, 3)) for _ in range(2))
            found = crossings(first, second)
            if found is None:
                with self.assertRaises(Endless):
                    counted_zeros(p, r)
                continue
            expected = [((num(x), num(y)), found[x, y]) for x, y in sorted(found)]
            self.assertEqual(counted_zeros(p, r), expected)
            self.assertEqual(rational_zeros(p, r), [point for point, k in expected])
            self.assertEqual(sum(found.values()), zero_count(p, r))
            most = max([most] + list(found.values()))
        self.assertGreater(most, 3)

    def test_order(self):
        p, r = system_of(2, "(x + y)*(x - y)", "(x + y - 2)*(x - y + 2)")
        self.assertEqual(rational_zeros(p, r), [(num(-1), num(1)), (num(1), num(1))])
        p, r = system_of(2, "y^2 - x^2", "y^2 + x^2 - 2")
        self.assertEqual(rational_zeros(p, r), [(num(x), num(y)) for x in (-1, 1) for y in (-1, 1)])
        # As numbers, and not as tuples: 1/3 before 1/2.
        p, r = system_of(2, "(x + y - 1)*(x + y - 2)", "(6*x - 6*y + 1)*(x - y)")
        points = rational_zeros(p, r)
        self.assertEqual(points, sorted(points, key=lambda point: (q(point[0]), q(point[1]))))
        self.assertEqual(len(points), 4)

    def test_partly_rational(self):
        # Above -1 there are two irrational second coordinates, which are square roots of 3.
        p, r = system_of(2, "x^2 + y^2 - 4", "(x - y^2 + 4)*(x + y - 2)")
        zeros = [((num(0), num(-2)), 1), ((num(0), num(2)), 2), ((num(2), num(0)), 1)]
        for first, second in ((p, r), (r, p)):
            self.assertEqual(counted_zeros(first, second), zeros)
            self.assertEqual(zero_count(first, second), 6)
        turned = [((num(-2), num(0)), 1), ((num(0), num(2)), 1), ((num(2), num(0)), 2)]
        self.assertEqual(counted_zeros(exchanged(p), exchanged(r)), turned)

    def test_multiplicities_have_no_bound(self):
        p = read_polynomial(2, "y - x^4")
        for k in (8, 9, 12, 16, 17):
            r = (((0, 4), (1, 1)), ((k, 0), (1, 1)))
            self.assertIn(((num(0), num(0)), min(16, k)), counted_zeros(p, r))

    def test_counts_beside_columns(self):
        for texts, zeros, many in FAIR:
            p, r = system_of(2, *texts)
            columns = column_counts(p, r)
            for x in {x for x, y, k in zeros}:
                above = sum(k for a, y, k in zeros if a == x)
                here = sum(k for k, f in columns if value(f, [Fraction(x)]) == 0)
                self.assertLessEqual(above, here)
                if sum(k for x, y, k in zeros) == many:
                    self.assertEqual(above, here)
            self.assertEqual(simple_part(resultant(2, p, r, 1)) == uni(1), many == 0)


if __name__ == "__main__":
    unittest.main()

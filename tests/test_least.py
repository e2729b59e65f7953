"""Promises [16.1] and [16.2]: least papers."""

import itertools
import unittest
from fractions import Fraction

from helpers import Maker, Odd, box_of, iv, nested, num, q, strange_values, system_of, uni, value
from rootfast.bounds import bounds
from rootfast.boxes import box_has, box_middle, halves, longest
from rootfast.least import check_least, least, least_between
from rootfast.texts import read_polynomial

OVER = ("over",)
DIP = uni(0, -1, 1)
UNIT = (iv(0, 1),)
PAPER = (num(-7, 16), (num(1, 4),), ("halve", 0, OVER, OVER))
BOWL = read_polynomial(2, "x^2 + y^2 - x")
PLANE = box_of((-1, 1), (0, 2))


def right_tree(p, box, low, tree):
    """As the document tells it, for what has the form of a tree."""
    if tree == OVER:
        return q(bounds(p, box)[0]) >= q(low)
    first, second = halves(box, tree[1])
    return right_tree(p, first, low, tree[2]) and right_tree(p, second, low, tree[3])


def parts_of(box, depth):
    if depth == 0:
        return [box]
    first, second = halves(box, longest(box))
    return parts_of(first, depth - 1) + parts_of(second, depth - 1)


def slow_least(p, box, gap, depth):
    """Word by word as the document tells it."""
    parts = parts_of(box, depth)
    middles = [box_middle(part) for part in parts]
    values = [value(p, [q(x) for x in point]) for point in middles]
    point = middles[values.index(min(values))]
    low = min(values) - q(gap)
    if any(q(bounds(p, part)[0]) < low for part in parts):
        return None

    def tree(part):
        if q(bounds(p, part)[0]) >= low:
            return OVER
        first, second = halves(part, longest(part))
        return ("halve", longest(part), tree(first), tree(second))

    return (num(low), point, tree(box))


class Checking(unittest.TestCase):
    def check(self, paper, expected, p=DIP, box=UNIT):
        self.assertIs(check_least(p, box, paper), expected, paper)

    def test_right_ones(self):
        self.check(PAPER, True)
        self.check((num(-1, 2), (num(0),), OVER), True)
        self.check((num(-1000), (num(1),), OVER), True)
        self.check((num(-1, 2), (num(1, 3),), ("halve", 0, OVER, ("halve", 0, OVER, OVER))), True)
        self.check((num(-2), (num(1), num(0)), ("halve", 1, OVER, ("halve", 0, OVER, OVER))), True, BOWL, PLANE)
        p = read_polynomial(3, "x*y*z + 1")
        box = box_of((0, 1), (-1, 1), (0, 2))
        self.check((num(-3), (num(0), num(0), num(0)), ("halve", 2, OVER, OVER)), True, p, box)

    def test_a_bound_equal_to_low(self):
        self.assertEqual(bounds(DIP, UNIT)[0], num(-1, 2))
        self.check((num(-1, 2), (num(1, 2),), OVER), True)
        self.check((num(Fraction(-1, 2) + Fraction(1, 10 ** 30)), (num(1, 2),), OVER), False)
        self.check((num(Fraction(-1, 2) - Fraction(1, 10 ** 30)), (num(1, 2),), OVER), True)
        self.check((num(1), (num(1, 2),), OVER), True, uni(1))
        self.check((num(0), (num(1, 2),), OVER), True, ())
        self.check((num(1, 10 ** 9), (num(1, 2),), OVER), False, ())

    def test_points(self):
        for x, expected in ((0, True), (1, True), (Fraction(1, 2), True), (-Fraction(1, 10 ** 20), False), (Fraction(11, 10), False)):
            self.check((num(-1, 2), (num(x),), OVER), expected)
        for x, y, expected in ((-1, 0, True), (1, 2, True), (-1, -1, False), (2, 0, False), (0, 3, False), (-2, 1, False)):
            self.check((num(-2), (num(x), num(y)), OVER), expected, BOWL, PLANE)
        self.check((num(-2), (num(0),), OVER), False, BOWL, PLANE)
        self.check((num(-2), (num(0), num(0), num(0)), OVER), False, BOWL, PLANE)

    def test_trees(self):
        low, point, tree = PAPER
        self.check((low, point, OVER), False)
        self.check((num(-3, 8), point, tree), True)
        self.check((num(-3, 8), point, ("halve", 0, OVER, ("halve", 0, OVER, OVER))), True)
        self.check((num(-37, 100), point, tree), False)
        left = ("halve", 0, ("halve", 0, OVER, OVER), OVER)
        right = ("halve", 0, OVER, ("halve", 0, OVER, OVER))
        p = uni(0, -1, 1, 1)
        for tree in (left, right, ("halve", 0, left, right)):
            for a in range(-60, 10):
                self.check((num(a, 64), point, tree), right_tree(p, UNIT, num(a, 64), tree), p)

    def test_halves_in_order(self):
        # The polynomial is less on the left.
        deep = ("halve", 0, OVER, ("halve", 0, OVER, OVER))
        p = uni(0, 1)
        found = set()
        for tree in (deep, ("halve", 0, deep[3], OVER)):
            for box in (iv(-1, 1),), (iv(0, 3),):
                for a in range(-20, 20):
                    expected = right_tree(p, box, num(a, 10), tree)
                    found.add(expected)
                    self.check((num(a, 10), box_middle(box), tree), expected, p, box)
        self.assertEqual(found, {True, False})
        mixed = read_polynomial(2, "x^2 - x*y + y^3")
        for tree in (("halve", 0, ("halve", 1, OVER, OVER), OVER), ("halve", 1, OVER, ("halve", 0, OVER, OVER))):
            for a in range(-60, 20):
                self.check((num(a, 10), box_middle(PLANE), tree), right_tree(mixed, PLANE, num(a, 10), tree), mixed, PLANE)

    def test_indexes(self):
        for k in (1, -1, 2, 10 ** 20, True, False, None, "0", (0,), 0.0, num(0)):
            self.check((num(-5), (num(0),), ("halve", k, OVER, OVER)), False)
        for k in (0, 1, 2, 3, -1, True, False):
            expected = type(k) is int and 0 <= k < 2
            self.check((num(-5), (num(0), num(0)), ("halve", k, OVER, OVER)), expected, BOWL, PLANE)

    def test_forty_halvings(self):
        for make in (lambda v: ("halve", 0, v or OVER, OVER), lambda v: ("halve", 0, OVER, v or OVER)):
            for depth, expected in ((39, True), (40, True), (41, False), (150, False), (198, False)):
                self.check((num(-1), (num(0),), nested(depth, make)), expected)

    def test_flat_boxes(self):
        flat = (iv(Fraction(1, 2), Fraction(1, 2)),)
        self.check((num(-1, 4), (num(1, 2),), OVER), True, DIP, flat)
        self.check((num(-1, 4), (num(1, 2),), ("halve", 0, OVER, OVER)), True, DIP, flat)
        self.check((num(-1, 5), (num(1, 2),), OVER), False, DIP, flat)
        self.check((num(-1, 4), (num(1, 3),), OVER), False, DIP, flat)
        box = box_of((-1, 1), (1, 1))
        self.check((num(-1), (num(0), num(1)), ("halve", 1, OVER, ("halve", 0, OVER, OVER))), True, BOWL, box)

    def test_wrong_forms(self):
        low, point, tree = PAPER
        for wrong in (
            [low, point, tree], (low, point), (low, point, tree, tree), (point, low, tree), (tree, point, low), (),
            None, True, "over",
            (low, list(point), tree), (low, num(1, 4), tree), (low, ((2, 8),), tree), (low, ((True, 4),), tree),
            ((True, 1), point, tree),
            ((-7, -16), point, tree), ((-14, 32), point, tree), (-1, point, tree), (low, None, tree),
            (None, point, tree), (low, (), tree),
            (low, point, None), (low, point, ()), (low, point, "over"), (low, point, ["over"]), (low, point, ("over", 0)),
            (low, point, ("over", ())), (low, point, list(tree)), (low, point, tree[:3]), (low, point, tree + (OVER,)),
            (low, point, ("rest",)), (low, point, ("free", 0)), (low, point, ("Over",)), (low, point, (b"over",)),
            (low, point, (OVER,)),
            (low, point, ("halve", 0, OVER, ["over"])), (low, point, ("halve", 0, ["over"], OVER)),
            (low, point, ("halve", 0, OVER, None)),
            (low, point, ("halve", OVER, OVER)), (low, point, ("halve", 0, ("rest",), OVER)), (low, point, (Odd(),)),
            (low, point, ("halve", Odd(), OVER, OVER)), (Odd(), point, tree), (low, Odd(), tree), (low, point, Odd()),
            (low, (Odd(),), tree),
        ):
            self.check(wrong, False)

    def test_strange_values(self):
        low, point, tree = PAPER
        for strange in strange_values():
            for point_in_plane in ((num(0), strange), (strange, num(0))):
                self.check((num(-2), point_in_plane, OVER), False, BOWL, PLANE)
            for wrong in (
                strange, (strange,) * 3, (strange, point, tree), (low, strange, tree), (low, (strange,), tree), (low, point, strange),
                (low, point, (strange,)), (low, point, ("halve", 0, strange, OVER)),
                (low, point, ("halve", 0, OVER, strange)),
                (low, point, (strange, 0, OVER, OVER)),
            ):
                self.check(wrong, False)
            if type(strange) is not int or strange != 0:
                self.check((low, point, ("halve", strange, OVER, OVER)), False)
        self.check((low, point, nested(199, lambda v: ("halve", 0, v, v))), False)


class Least(unittest.TestCase):
    def test_known_ones(self):
        self.assertEqual(least(DIP, UNIT, num(1, 4), 1), PAPER)
        self.assertEqual(least(DIP, UNIT, num(1, 4), 0), (num(-1, 2), (num(1, 2),), OVER))
        self.assertIsNone(least(DIP, UNIT, num(6, 25), 0))
        self.assertEqual(least(uni(3), UNIT, num(0), 4), (num(3), (num(1, 32),), OVER))
        self.assertEqual(least((), UNIT, num(0), 0), (num(0), (num(1, 2),), OVER))
        self.assertIsNone(least(uni(0, 1), UNIT, num(0), 5))

    def test_the_bound_may_be_equal(self):
        # The lower bounds over the halves are -3/8, and p is -3/16 at their middles.
        self.assertEqual(least(DIP, UNIT, num(3, 16), 1), (num(-3, 8), (num(1, 4),), ("halve", 0, OVER, OVER)))
        self.assertIsNone(least(DIP, UNIT, num(Fraction(3, 16) - Fraction(1, 10 ** 12)), 1))

    def test_first_of_the_least_middles(self):
        p = uni(0, 0, -2, 0, 1)
        box = (iv(-2, 2),)
        for depth in range(7):
            found = least(p, box, num(100), depth)
            self.assertEqual(found, slow_least(p, box, num(100), depth))
        self.assertLess(least(p, box, num(100), 5)[1][0][0], 0)
        flat = read_polynomial(2, "x^2")
        self.assertEqual(least(flat, box_of((-1, 1), (-1, 1)), num(1), 2)[1], (num(-1, 2), num(-1, 2)))

    def test_gap_0(self):
        self.assertEqual(least(uni(0, 0, 1), (iv(-1, 1),), num(0), 0), (num(0), (num(0),), OVER))
        self.assertEqual(least(uni(5), (iv(2, 2),), num(0), 3), (num(5), (num(2),), OVER))
        self.assertEqual(least(uni(0, 1), (iv(2, 2),), num(0), 12), (num(2), (num(2),), OVER))
        self.assertIsNone(least(DIP, UNIT, num(0), 3))

    def test_against_the_words(self):
        maker = Maker(161)
        found = set()
        for _ in range(150):
            n = maker.random.randint(1, 3)
            p = maker.polynomial(n, maker.random.randint(0, 5), 3)
            box = tuple(iv(q(x), q(x) + abs(q(maker.number(6, 3)))) for x in maker.point(n))
            if maker.random.randint(0, 4) == 0:
                box = box[:-1] + (iv(1, 1),)
            for depth in range(5):
                gap = num(abs(q(maker.number(100, 3))))
                paper = least(p, box, gap, depth)
                self.assertEqual(paper, slow_least(p, box, gap, depth))
                found.add((n, paper is None))
                if paper is not None:
                    self.assertIs(type(paper), tuple)
                    self.assertIs(check_least(p, box, paper), True)
        self.assertEqual(found, {(n, none) for n in (1, 2, 3) for none in (True, False)})

    def test_depth_12(self):
        paper = least(uni(0, -1, 1), UNIT, num(1, 1000), 12)
        self.assertIsNotNone(paper)
        self.assertIs(check_least(DIP, UNIT, paper), True)

    def test_bounds_hold(self):
        for texts, box, n in ((("x^4 - 3*x^2 + x",), (iv(-2, 2),), 1), (("x^2*y - y^3 + x",), box_of((-1, 1), (-1, 2)), 2)):
            p = system_of(n, *texts)[0]
            paper = least(p, box, num(2), 9)
            low, high = (q(x) for x in least_between(p, paper))
            steps = [[q(i[0]) + (q(i[1]) - q(i[0])) * k / 24 for k in range(25)] for i in box]
            tried = min(value(p, point) for point in itertools.product(*steps))
            self.assertLessEqual(low, tried)
            self.assertEqual(high - low, 2)
            self.assertTrue(box_has(box, paper[1]))


class Between(unittest.TestCase):
    def test_known_ones(self):
        self.assertEqual(least_between(DIP, PAPER), (num(-7, 16), num(-3, 16)))
        self.assertEqual(least_between(DIP, (num(-5), (num(1),), OVER)), (num(-5), num(0)))
        self.assertEqual(least_between(BOWL, (num(-2), (num(1), num(2)), OVER)), (num(-2), num(4)))


if __name__ == "__main__":
    unittest.main()

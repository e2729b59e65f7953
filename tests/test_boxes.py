"""Promise [6.1]: boxes."""

import itertools
import unittest
from fractions import Fraction

from helpers import Maker, box_of, iv, num, q, strange_values
from rootfast.boxes import (
    box_has, box_hull, box_inside, box_meeting, box_middle, box_rounded, box_widths, box_within, corners, halves,
    is_box, longest, widened,
)
from rootfast.intervals import has, hull_of, lies_inside, lies_within, meeting_of, rounded

HALF = Fraction(1, 2)


class Telling(unittest.TestCase):
    def test_boxes(self):
        maker = Maker(50)
        for n in (1, 2, 3, 4):
            for _ in range(10):
                self.assertIs(is_box(n, maker.box(n)), True)
            self.assertIs(is_box(n, box_of(*[(0, 0)] * n)), True)
            self.assertIs(is_box(n, box_of(*[(0, 1)] * (n + 1))), False)
            self.assertIs(is_box(n + 1, box_of(*[(0, 1)] * n)), False)

    def test_wrong_ones(self):
        good = iv(0, 1)
        for value in (
            [good, good], (list(good), good), (good, [good]), (good, None), (good, True), (good, "box"), (good, ((0, 1),)),
            (good, ((1, 1), (0, 1))), (good, ((0, 2), (1, 1))), (good, ((False, 1), (1, 1))), (good, (0, 1)), good, (good,),
            (good, good, good), ((good, good),), (good, (good, good)), (), {0: good, 1: good},
        ):
            self.assertIs(is_box(2, value), False, value)
        for value in strange_values():
            for n in (1, 2, 3, 4):
                self.assertIs(is_box(n, value), False)
            self.assertIs(is_box(2, (good, value)), False)
            self.assertIs(is_box(1, (value,)), False)


class Measures(unittest.TestCase):
    def test_middles_and_widths(self):
        box = box_of((-1, 2), (HALF, HALF), (0, Fraction(1, 3)))
        self.assertEqual(box_middle(box), (num(1, 2), num(1, 2), num(1, 6)))
        self.assertEqual(box_widths(box), (num(3), num(0), num(1, 3)))
        maker = Maker(51)
        for n in (1, 2, 3, 4):
            box = maker.box(n)
            self.assertEqual(box_middle(box), tuple(num((q(a) + q(b)) / 2) for a, b in box))
            self.assertEqual(box_widths(box), tuple(num(q(b) - q(a)) for a, b in box))

    def test_longest(self):
        self.assertEqual(longest(box_of((0, 1))), 0)
        self.assertEqual(longest(box_of((0, 1), (0, 2), (5, 6))), 1)
        self.assertEqual(longest(box_of((0, 2), (-1, 1), (5, 7))), 0)
        self.assertEqual(longest(box_of((0, 1), (-1, 1), (0, 1), (5, 7))), 1)
        self.assertEqual(longest(box_of((3, 3), (4, 4))), 0)
        self.assertEqual(longest(box_of((3, 3), (4, Fraction(9, 2)))), 1)

    def test_halves(self):
        box = box_of((0, 1), (-1, 2))
        self.assertEqual(halves(box, 0), (box_of((0, HALF), (-1, 2)), box_of((HALF, 1), (-1, 2))))
        self.assertEqual(halves(box, 1), (box_of((0, 1), (-1, HALF)), box_of((0, 1), (HALF, 2))))
        flat = box_of((3, 3))
        self.assertEqual(halves(flat, 0), (flat, flat))
        four = box_of((0, 1), (0, 1), (0, 1), (0, 1))
        self.assertEqual(halves(four, 3)[1], box_of((0, 1), (0, 1), (0, 1), (HALF, 1)))

    def test_widened(self):
        self.assertEqual(widened(box_of((0, 1), (2, 2), (-1, 3))), box_of((-HALF, HALF * 3), (2, 2), (-3, 5)))
        maker = Maker(52)
        for n in (1, 2, 3, 4):
            box = maker.box(n)
            self.assertEqual(box_middle(widened(box)), box_middle(box))
            self.assertEqual(box_widths(widened(box)), tuple(num(2 * q(x)) for x in box_widths(box)))

    def test_rounded(self):
        third = Fraction(1, 3)
        self.assertEqual(box_rounded(box_of((third, 2 * third), (1, 1)), 2), box_of((HALF / 2, 3 * HALF / 2), (1, 1)))
        self.assertEqual(box_rounded(box_of((third, 2 * third), (-third, -third)), 0), box_of((0, 1), (-1, 0)))
        maker = Maker(53)
        for n in (1, 2, 3, 4):
            box = maker.box(n)
            self.assertEqual(box_rounded(box, 5), tuple(rounded(i, 5) for i in box))


class Comparing(unittest.TestCase):
    some = [box_of(*ends) for ends in itertools.product([(-1, 1), (0, 0), (0, 1), (1, 2), (HALF, HALF), (-HALF, HALF), (3, 4)], repeat=2)]

    def test_points(self):
        for box in self.some:
            for point in itertools.product((-2, -1, 0, HALF, 1, 2), repeat=2):
                told = all(has(i, num(x)) for i, x in zip(box, point))
                self.assertIs(box_has(box, tuple(num(x) for x in point)), told)

    def test_within_and_inside(self):
        for first, second in itertools.product(self.some, self.some):
            self.assertIs(box_within(first, second), all(lies_within(i, j) for i, j in zip(first, second)))
            self.assertIs(box_inside(first, second), all(lies_inside(i, j) for i, j in zip(first, second)))
        square = box_of((0, 1), (0, 1))
        self.assertIs(box_within(square, square), True)
        self.assertIs(box_inside(square, square), False)
        self.assertIs(box_inside(box_of((HALF, HALF), (HALF, 1)), square), False)
        self.assertIs(box_inside(box_of((HALF, HALF), (HALF, HALF)), square), True)

    def test_meetings_and_hulls(self):
        for first, second in itertools.product(self.some, self.some):
            both = [meeting_of(i, j) for i, j in zip(first, second)]
            self.assertEqual(box_meeting(first, second), None if None in both else tuple(both))
            self.assertEqual(box_hull(first, second), tuple(hull_of(i, j) for i, j in zip(first, second)))

    def test_touching_overlapping_and_apart(self):
        square = box_of((0, 1), (0, 1))
        self.assertEqual(box_meeting(square, box_of((1, 2), (1, 3))), box_of((1, 1), (1, 1)))
        self.assertEqual(box_meeting(square, box_of((1, 2), (0, 1))), box_of((1, 1), (0, 1)))
        self.assertEqual(box_meeting(square, box_of((HALF, 2), (-1, HALF))), box_of((HALF, 1), (0, HALF)))
        self.assertEqual(box_meeting(square, box_of((-1, 2), (-1, 2))), square)
        self.assertIsNone(box_meeting(square, box_of((0, 1), (2, 3))))
        self.assertIsNone(box_meeting(square, box_of((2, 3), (0, 1))))
        self.assertEqual(box_hull(square, box_of((0, HALF), (2, 3))), box_of((0, 1), (0, 3)))
        four = box_of((0, 1), (0, 1), (0, 1), (0, 1))
        self.assertIsNone(box_meeting(four, box_of((0, 1), (0, 1), (0, 1), (2, 3))))


class Corners(unittest.TestCase):
    def check(self, box, *points):
        found = corners(box)
        self.assertIs(type(found), list)
        self.assertEqual(found, [tuple(num(x) for x in point) for point in points])

    def test_some(self):
        self.check(box_of((0, 1)), (0,), (1,))
        self.check(box_of((-1, 1), (2, 3)), (-1, 2), (-1, 3), (1, 2), (1, 3))
        self.check(box_of((0, 1), (0, 2), (0, 3)), *itertools.product((0, 1), (0, 2), (0, 3)))
        self.assertEqual(len(corners(box_of((0, 1), (0, 2), (0, 3), (0, 4)))), 16)

    def test_equal_ends(self):
        self.check(box_of((3, 3)), (3,))
        self.check(box_of((3, 3), (0, 1)), (3, 0), (3, 1))
        self.check(box_of((0, 1), (3, 3)), (0, 3), (1, 3))
        self.check(box_of((0, 0), (1, 1), (2, 2), (3, 3)), (0, 1, 2, 3))
        self.check(box_of((0, 1), (1, 1), (-2, 2)), (0, 1, -2), (0, 1, 2), (1, 1, -2), (1, 1, 2))


if __name__ == "__main__":
    unittest.main()

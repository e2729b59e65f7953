"""Promise [1.3]: intervals."""

import itertools
import unittest
from fractions import Fraction

from helpers import Maker, iv, num, q, strange_values
from rootfast.intervals import (
    difference_of, has, hull_of, is_interval, lies_inside, lies_within, meeting_of, middle_of, multiple_of,
    power_of, product_of, rounded, sign_of, sum_of, width_of,
)

SOME = [iv(a, b) for a, b in itertools.combinations_with_replacement((-3, Fraction(-1, 2), 0, Fraction(2, 3), 2), 2)]


def ends(i):
    return q(i[0]), q(i[1])


def exact(numbers):
    return (num(min(numbers)), num(max(numbers)))


class Telling(unittest.TestCase):
    def test_intervals(self):
        for i in SOME:
            self.assertIs(is_interval(i), True, i)

    def test_none(self):
        for i in (
            iv(2, 1), iv(0, Fraction(-1, 2)), [(0, 1), (1, 1)], ((0, 1), [1, 1]), ([0, 1], (1, 1)), ((0, 1),),
            ((0, 1), (1, 1), (2, 1)), ((0, 2), (1, 1)), ((0, 1), (2, 2)), ((0, 1), (True, 1)), (0, 1), ((0, 1), None),
            ((0, 1), 1), ("0", "1"), (),
        ):
            self.assertIs(is_interval(i), False, i)
        for i in strange_values():
            self.assertIs(is_interval(i), False)


class Reckoning(unittest.TestCase):
    def test_sums_differences_products(self):
        for i, j in itertools.product(SOME, SOME):
            (a, b), (c, d) = ends(i), ends(j)
            self.assertEqual(sum_of(i, j), iv(a + c, b + d))
            self.assertEqual(difference_of(i, j), iv(a - d, b - c))
            self.assertEqual(product_of(i, j), exact([a * c, a * d, b * c, b * d]))

    def test_multiples(self):
        for i in SOME:
            for x in (-2, Fraction(-1, 3), 0, 1, Fraction(5, 2)):
                self.assertEqual(multiple_of(num(x), i), exact([x * end for end in ends(i)]))

    def test_powers(self):
        self.assertEqual(power_of(iv(-1, 2), 2), iv(0, 4))
        self.assertEqual(power_of(iv(-3, 2), 2), iv(0, 9))
        self.assertEqual(power_of(iv(-1, 2), 3), iv(-1, 8))
        self.assertEqual(power_of(iv(-3, -2), 2), iv(4, 9))
        self.assertEqual(power_of(iv(-3, -2), 3), iv(-27, -8))
        self.assertEqual(power_of(iv(-3, 0), 4), iv(0, 81))
        self.assertEqual(power_of(iv(0, 3), 4), iv(0, 81))
        self.assertEqual(power_of(iv(-1, 2), 0), iv(1, 1))
        self.assertEqual(power_of(iv(0, 0), 0), iv(1, 1))
        self.assertEqual(power_of(iv(0, 0), 2), iv(0, 0))
        for i in SOME:
            self.assertEqual(power_of(i, 1), i)
            for k in range(1, 8):
                inner = [Fraction(0)] if q(i[0]) <= 0 <= q(i[1]) else []
                self.assertEqual(power_of(i, k), exact([x ** k for x in list(ends(i)) + inner]))


class Comparing(unittest.TestCase):
    def test_meeting_and_hull(self):
        for i, j in itertools.product(SOME, SOME):
            (a, b), (c, d) = ends(i), ends(j)
            low, high = max(a, c), min(b, d)
            self.assertEqual(meeting_of(i, j), iv(low, high) if low <= high else None)
            self.assertEqual(hull_of(i, j), iv(min(a, c), max(b, d)))

    def test_touching_and_apart(self):
        self.assertEqual(meeting_of(iv(0, 1), iv(1, 2)), iv(1, 1))
        self.assertIsNone(meeting_of(iv(0, 1), iv(Fraction(3, 2), 2)))
        self.assertEqual(hull_of(iv(0, 1), iv(2, 3)), iv(0, 3))

    def test_sign(self):
        self.assertEqual(sign_of(iv(Fraction(1, 9), 2)), 1)
        self.assertEqual(sign_of(iv(-2, Fraction(-1, 9))), -1)
        for i in (iv(0, 2), iv(-2, 0), iv(-1, 1), iv(0, 0)):
            self.assertEqual(sign_of(i), 0)

    def test_has(self):
        for i in SOME:
            for x in (-3, -1, Fraction(-1, 2), 0, Fraction(2, 3), 1, 2, 3):
                self.assertIs(has(i, num(x)), q(i[0]) <= x <= q(i[1]))

    def test_within_and_inside(self):
        for i, j in itertools.product(SOME, SOME):
            (a, b), (c, d) = ends(i), ends(j)
            self.assertIs(lies_within(i, j), c <= a and b <= d)
            self.assertIs(lies_inside(i, j), c < a and b < d)
        self.assertIs(lies_within(iv(0, 1), iv(0, 2)), True)
        self.assertIs(lies_inside(iv(0, 1), iv(0, 2)), False)
        self.assertIs(lies_inside(iv(1, 2), iv(0, 2)), False)
        self.assertIs(lies_inside(iv(1, 1), iv(1, 1)), False)
        self.assertIs(lies_inside(iv(1, 1), iv(0, 2)), True)


class Measuring(unittest.TestCase):
    def test_middle_and_width(self):
        for i in SOME:
            a, b = ends(i)
            self.assertEqual(middle_of(i), num((a + b) / 2))
            self.assertEqual(width_of(i), num(b - a))

    def test_rounded(self):
        self.assertEqual(rounded(iv(Fraction(1, 3), Fraction(2, 3)), 2), iv(Fraction(1, 4), Fraction(3, 4)))
        self.assertEqual(rounded(iv(Fraction(1, 3), Fraction(2, 3)), 0), iv(0, 1))
        self.assertEqual(rounded(iv(Fraction(-1, 3), Fraction(-1, 5)), 0), iv(-1, 0))
        self.assertEqual(rounded(iv(-2, 3), 0), iv(-2, 3))
        self.assertEqual(rounded(iv(Fraction(1, 2), Fraction(1, 2)), 0), iv(0, 1))
        self.assertEqual(rounded(iv(Fraction(1, 2), Fraction(1, 2)), 1), iv(Fraction(1, 2), Fraction(1, 2)))
        maker = Maker(2)
        for bits in (0, 1, 5, 100):
            for _ in range(40):
                i = maker.interval()
                scale = 2 ** bits
                low = Fraction((q(i[0]) * scale).__floor__(), scale)
                high = Fraction((q(i[1]) * scale).__ceil__(), scale)
                self.assertEqual(rounded(i, bits), iv(low, high))


if __name__ == "__main__":
    unittest.main()

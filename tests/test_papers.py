"""Promises [7.1] to [7.5]: papers for boxes."""

import unittest
from fractions import Fraction

from helpers import Maker, around, box_of, iv, num, q, strange_values, system_of, uni
from rootfast.bounds import bounds, slopes
from rootfast.boxes import box_has, box_inside, box_meeting, box_middle, box_widths, box_within, is_box, widened
from rootfast.intervals import difference_of, multiple_of, product_of, sign_of, sum_of
from rootfast.matrices import applied, determinant, inverse
from rootfast.papers import (
    cover_paper, free_index, is_cover, is_free, is_single, krawczyk, narrowed, same_zero, single_paper,
)
from rootfast.polynomials import constant, polynomial, scaled, subtracted, value_at
from rootfast.systems import jacobian, values_at

TWO = (uni(-2, 0, 1),)
CIRCLE = system_of(2, "x^2 + y^2 - 2", "x - y")
PLAIN = system_of(2, "x", "y")
ONE = ((num(1),),)
HALF = Fraction(1, 2)


def mat(*rows):
    return tuple(tuple(num(x) for x in row) for row in rows)


def unit(n, x=1):
    return mat(*[[x if i == j else 0 for j in range(n)] for i in range(n)])


def exact(x):
    return (x, x)


def slow_krawczyk(system, box, A):
    """Word by word as the document tells it."""
    n = len(box)
    m = box_middle(box)
    D = slopes(system, box)
    step = applied(A, values_at(system, m))
    found = []
    for i in range(n):
        total = difference_of(exact(m[i]), exact(step[i]))
        for j in range(n):
            inner = iv(0, 0)
            for k in range(n):
                inner = sum_of(inner, multiple_of(A[i][k], D[k][j]))
            entry = difference_of(iv(1, 1) if i == j else iv(0, 0), inner)
            total = sum_of(total, product_of(entry, difference_of(box[j], exact(m[j]))))
        found.append(total)
    return tuple(found)


def with_zero(maker, n, terms=5, most=3):
    """A square system without a plan, and a point that is a zero of it."""
    point = tuple(maker.number(4, 2) for _ in range(n))
    system = [maker.polynomial(n, terms, most) for _ in range(n)]
    return tuple(subtracted(p, constant(n, value_at(p, point))) for p in system), point


def certified(maker, n, **more):
    """A system, a zero of it, a box around with a right single paper, and that."""
    while True:
        system, point = with_zero(maker, n, **more)
        if inverse(jacobian(n, system, point)) is None:
            continue
        size = Fraction(2)
        for _ in range(12):
            shift = [Fraction(maker.random.randint(-3, 3), 10) * size for _ in range(n)]
            box = around([q(x) + s for x, s in zip(point, shift)], size)
            A = single_paper(system, box)
            if A is not None:
                return system, point, box, A
            size /= 2


class Free(unittest.TestCase):
    def check(self, system, box, told):
        for k, p in enumerate(system):
            self.assertIs(is_free(system, box, k), sign_of(bounds(p, box)) != 0)
        found = free_index(system, box)
        self.assertEqual(found, told)
        if told is not None:
            self.assertIs(type(found), int)

    def test_some(self):
        self.check(TWO, box_of((2, 3)), 0)
        self.check(TWO, box_of((0, 1)), 0)
        self.check(TWO, box_of((1, 2)), None)
        self.check(CIRCLE, box_of((2, 3), (0, 1)), 0)
        self.check(CIRCLE, box_of((1, 2), (-HALF, HALF)), 1)
        self.check(CIRCLE, box_of((0, 2), (0, 2)), None)
        self.check(CIRCLE, box_of((5, 6), (0, 1)), 0)

    def test_bounds_that_touch_zero(self):
        self.check(system_of(1, "x"), box_of((0, 1)), None)
        self.check(system_of(1, "x"), box_of((-1, 0)), None)
        self.check(system_of(1, "x^2"), box_of((-1, 1)), None)
        self.check(system_of(1, "x - 1"), box_of((0, 1)), None)
        self.check(system_of(1, "x - 1"), box_of((0, Fraction(999, 1000))), 0)
        self.check(system_of(1, "x"), box_of((0, 0)), None)
        self.check(system_of(2, "x", "y"), box_of((0, 1), (1, 2)), 1)

    def test_zero_polynomials_and_constants(self):
        self.check(((), ()), box_of((0, 1), (0, 1)), None)
        self.check(((), system_of(2, "3")[0]), box_of((0, 1), (0, 1)), 1)

    def test_more_variables(self):
        maker = Maker(60)
        for n in (1, 2, 3, 4):
            for _ in range(10):
                system, box = tuple(maker.polynomial(n, 4, 3) for _ in range(n)), maker.box(n)
                told = [k for k in range(n) if sign_of(bounds(system[k], box)) != 0]
                self.check(system, box, told[0] if told else None)


class Krawczyk(unittest.TestCase):
    def test_some(self):
        self.assertEqual(krawczyk(TWO, box_of((1, 2)), mat([Fraction(1, 3)])), box_of((Fraction(5, 4), Fraction(19, 12))))
        self.assertEqual(krawczyk(TWO, box_of((1, 2)), mat([0])), box_of((1, 2)))
        self.assertEqual(krawczyk(PLAIN, box_of((-1, 2), (0, 1)), unit(2)), box_of((0, 0), (0, 0)))
        self.assertEqual(krawczyk(PLAIN, box_of((-1, 2), (0, 1)), mat([0, 1], [1, 0])), box_of((-2, 2), (-2, 2)))

    def test_word_by_word(self):
        maker = Maker(61)
        for n in (1, 2, 3, 4):
            for _ in range(15):
                system = tuple(maker.polynomial(n, 5, 3) for _ in range(n))
                box, A = maker.box(n), maker.matrix(n, n)
                self.assertEqual(krawczyk(system, box, A), slow_krawczyk(system, box, A))

    def test_widths_of_zero(self):
        self.assertEqual(krawczyk(TWO, box_of((2, 2)), ONE), box_of((0, 0)))
        system = system_of(2, "x*y - 1", "x + y^2")
        box = box_of((1, 1), (0, 2))
        self.assertEqual(krawczyk(system, box, mat([1, 2], [-1, HALF])), slow_krawczyk(system, box, mat([1, 2], [-1, HALF])))

    def test_zeros_stay(self):
        maker = Maker(62)
        for n in (1, 2, 3):
            for _ in range(10):
                system, point = with_zero(maker, n)
                box = around([q(x) + Fraction(1, 7) for x in point], Fraction(1, 2))
                self.assertIs(box_has(krawczyk(system, box, maker.matrix(n, n)), point), True)


class Single(unittest.TestCase):
    def test_right_ones(self):
        self.assertIs(is_single(TWO, box_of((1, 2)), mat([Fraction(1, 3)])), True)
        self.assertIs(is_single(TWO, box_of((1, 2)), mat([Fraction(1, 10 ** 6)])), True)
        self.assertIs(is_single(TWO, box_of((-2, -1)), mat([Fraction(-1, 3)])), True)
        self.assertIs(is_single(PLAIN, box_of((-1, 1), (-1, 2)), unit(2)), True)
        self.assertIs(is_single(system_of(3, "x + y", "y + z", "z + x + 1"), around([0, 0, 0], 1), single_paper(
            system_of(3, "x + y", "y + z", "z + x + 1"), around([0, 0, 0], 1))), True)

    def test_wrong_ones(self):
        self.assertIs(is_single(TWO, box_of((1, 2)), mat([1])), False)
        self.assertIs(is_single(TWO, box_of((1, 2)), mat([-1])), False)
        self.assertIs(is_single(TWO, box_of((1, 2)), mat([0])), False)
        self.assertIs(is_single(TWO, box_of((2, 3)), mat([Fraction(1, 5)])), False)
        self.assertIs(is_single(TWO, box_of((-2, 2)), mat([Fraction(1, 4)])), False)
        self.assertIs(is_single(system_of(1, "x^2"), box_of((-1, 1)), mat([1])), False)
        self.assertIs(is_single(PLAIN, box_of((-1, 1), (-1, 2)), unit(2, 2)), False)

    def test_boundary(self):
        # Krawczyk's box touches the boundary where the zero is at an end.
        plain = system_of(1, "x")
        self.assertEqual(krawczyk(plain, box_of((0, 1)), ONE), box_of((0, 0)))
        self.assertIs(is_single(plain, box_of((0, 1)), ONE), False)
        self.assertIs(is_single(plain, box_of((-1, 0)), ONE), False)
        self.assertIs(is_single(plain, box_of((Fraction(-1, 1000), 1)), ONE), True)
        self.assertEqual(krawczyk(plain, box_of((-1, 1)), mat([2])), box_of((-1, 1)))
        self.assertIs(is_single(plain, box_of((-1, 1)), mat([2])), False)
        self.assertIs(is_single(PLAIN, box_of((-1, 1), (0, 1)), unit(2)), False)
        self.assertIsNone(single_paper(PLAIN, box_of((-1, 1), (0, 1))))

    def test_widths_of_zero(self):
        self.assertIs(is_single(system_of(1, "x"), box_of((0, 0)), ONE), False)
        self.assertIs(is_single(PLAIN, box_of((-1, 1), (0, 0)), unit(2)), False)
        self.assertIsNone(single_paper(PLAIN, box_of((-1, 1), (0, 0))))

    def test_wrong_forms(self):
        for value in (
            ((1,),), [[(1, 3)]], ([(1, 3)],), [((1, 3),)], (((2, 6),),), (((1, 3), (1, 3)),), (((1, 3),), ((1, 3),)), (1, 3), ((1, 3),),
            "1/3", True, None, (((True, 3),),), ((("1", "3"),),), (), ((),), (((1, 0),),), ("single", (((1, 3),),)),
        ):
            self.assertIs(is_single(TWO, box_of((1, 2)), value), False, value)
        for value in strange_values():
            for wrong in (value, (value,), ((value,),)):
                self.assertIs(is_single(TWO, box_of((1, 2)), wrong), False)
            self.assertIs(is_single(PLAIN, box_of((-1, 1), (-1, 1)), (unit(2)[0], value)), False)

    def test_single_paper(self):
        self.assertEqual(single_paper(TWO, box_of((1, 2))), mat([Fraction(1, 3)]))
        self.assertIsNone(single_paper(TWO, box_of((-1, 1))))
        self.assertIsNone(single_paper(TWO, box_of((2, 3))))
        self.assertIsNone(single_paper(system_of(2, "x + y", "x + y - 1"), box_of((-1, 1), (-1, 1))))
        self.assertIsNone(single_paper(system_of(1, "x^2"), box_of((-1, 1))))
        maker = Maker(63)
        for n in (1, 2, 3, 4):
            for _ in range(10):
                system, box = with_zero(maker, n)[0], maker.box(n)
                A = inverse(jacobian(n, system, box_middle(box)))
                right = A is not None and box_inside(slow_krawczyk(system, box, A), box)
                self.assertEqual(single_paper(system, box), A if right else None)
            system, point, box, A = certified(maker, n)
            self.assertIs(is_single(system, box, A), True)
            self.assertIs(box_inside(slow_krawczyk(system, box, A), box), True)


class Cover(unittest.TestCase):
    def slow(self, system, box, A):
        if determinant(A) == (0, 1) or (0, 1) in box_widths(box):
            return False
        for i, row in enumerate(A):
            p = polynomial(len(box), [term for x, r in zip(row, system) for term in scaled(r, x)])
            for end, sign in ((0, 1), (1, -1)):
                face = box[:i] + (exact(box[i][end]),) + box[i + 1:]
                low, high = bounds(p, face)
                if (q(high) > 0) if sign == 1 else (q(low) < 0):
                    return False
        return True

    def test_right_ones(self):
        self.assertIs(is_cover(TWO, box_of((1, 2)), ONE), True)
        self.assertIs(is_cover(TWO, box_of((-2, -1)), mat([-5])), True)
        self.assertIs(is_cover(TWO, box_of((0, 100)), ONE), True)
        self.assertIs(is_cover(PLAIN, box_of((-1, 1), (-2, 3)), unit(2)), True)
        self.assertIs(is_cover(PLAIN, box_of((-1, 1), (-1, 1)), mat([2, 1], [-1, 1])), True)
        self.assertIs(is_cover(system_of(1, "x^3"), box_of((-1, 1)), ONE), True)
        self.assertIs(is_cover(system_of(3, "x", "y", "z"), around([0, 0, 0], 1), unit(3)), True)
        self.assertIs(is_cover(system_of(4, "x", "y", "z", "u^3"), around([0] * 4, 1), unit(4)), True)

    def test_zero_bounds_at_faces(self):
        self.assertIs(is_cover(system_of(1, "x"), box_of((0, 1)), ONE), True)
        self.assertIs(is_cover(system_of(1, "x"), box_of((-1, 0)), ONE), True)
        self.assertIs(is_cover(system_of(1, "x - 1"), box_of((0, 1)), ONE), True)
        self.assertIs(is_cover(system_of(1, "x^2 - x"), box_of((0, 1)), ONE), True)
        self.assertIs(is_cover(((), ()), box_of((0, 1), (0, 1)), unit(2)), True)
        self.assertIs(is_cover(PLAIN, box_of((-1, 1), (0, 1)), unit(2)), True)

    def test_wrong_ones(self):
        self.assertIs(is_cover(TWO, box_of((1, 2)), mat([-1])), False)
        self.assertIs(is_cover(TWO, box_of((2, 3)), ONE), False)
        self.assertIs(is_cover(TWO, box_of((0, 1)), ONE), False)
        self.assertIs(is_cover(TWO, box_of((-2, 2)), ONE), False)
        self.assertIs(is_cover(PLAIN, box_of((-1, 1), (-1, 1)), mat([0, 1], [1, 0])), False)
        self.assertIs(is_cover(PLAIN, box_of((-1, 1), (-1, 1)), mat([1, 2], [0, 1])), False)
        self.assertIs(is_cover(PLAIN, box_of((-1, 1), (-1, 1)), mat([1, 0], [0, -1])), False)

    def test_determinant_zero(self):
        self.assertIs(is_cover(TWO, box_of((1, 2)), mat([0])), False)
        same = system_of(2, "x + y", "x + y")
        self.assertIs(is_cover(same, box_of((-1, 1), (-1, 1)), mat([1, 0], [0, 1])), True)
        self.assertIs(is_cover(same, box_of((-1, 1), (-1, 1)), mat([1, 1], [1, 1])), False)
        self.assertIs(is_cover(PLAIN, box_of((-1, 1), (-1, 1)), mat([0, 0], [0, 1])), False)

    def test_widths_of_zero(self):
        self.assertIs(is_cover(system_of(1, "x"), box_of((0, 0)), ONE), False)
        self.assertIs(is_cover(PLAIN, box_of((-1, 1), (0, 0)), unit(2)), False)
        self.assertIs(is_cover(((), ()), box_of((0, 0), (0, 1)), unit(2)), False)
        self.assertIsNone(cover_paper(system_of(1, "x"), box_of((0, 0))))
        self.assertIsNone(cover_paper(PLAIN, box_of((0, 0), (-1, 1))))

    def test_wrong_forms(self):
        for value in (((1,),), [[(1, 1)]], ([(1, 1)],), (((2, 2),),), (((1, 1), (1, 1)),), (1, 1), "1", True, None, (), ((),), (((True, 1),),)):
            self.assertIs(is_cover(TWO, box_of((1, 2)), value), False, value)
        for value in strange_values():
            for wrong in (value, (value,), ((value,),)):
                self.assertIs(is_cover(TWO, box_of((1, 2)), wrong), False)

    def test_cover_paper(self):
        self.assertEqual(cover_paper(TWO, box_of((1, 2))), mat([Fraction(1, 3)]))
        self.assertEqual(cover_paper(system_of(1, "x"), box_of((0, 1))), ONE)
        self.assertIsNone(cover_paper(TWO, box_of((-2, 2))))
        self.assertIsNone(cover_paper(TWO, box_of((2, 3))))
        self.assertIsNone(cover_paper(system_of(1, "x^3"), box_of((-1, 1))))
        self.assertIsNone(cover_paper(system_of(2, "x + y", "x + y"), box_of((-1, 1), (-1, 1))))

    def test_many(self):
        maker = Maker(64)
        for n in (1, 2, 3, 4):
            for _ in range(10):
                system, point = with_zero(maker, n)
                box = around([q(x) for x in point], Fraction(1, 2 ** maker.random.randint(0, 6)))
                for A in (maker.matrix(n, n), inverse(jacobian(n, system, point))):
                    if A is not None:
                        self.assertIs(is_cover(system, box, A), self.slow(system, box, A))
                A = inverse(jacobian(n, system, box_middle(box)))
                self.assertEqual(cover_paper(system, box), A if A is not None and self.slow(system, box, A) else None)
            system, point, box, A = certified(maker, n)
            small = widened(narrowed(system, box, A, 30))
            found = cover_paper(system, small)
            if found is not None:
                self.assertIs(is_cover(system, small, found), True)


class Narrowed(unittest.TestCase):
    def check(self, system, box, A, bits, zero=None):
        self.assertIs(is_single(system, box, A), True)
        found = narrowed(system, box, A, bits)
        self.assertIs(is_box(len(box), found), True)
        self.assertIs(box_within(found, box), True)
        for width in box_widths(found):
            self.assertLessEqual(q(width), Fraction(1, 2 ** bits))
        if zero is not None:
            self.assertIs(box_has(found, zero), True)
        # A zero that is not known lies where Krawczyk's box, of the given box, does.
        self.assertIsNotNone(box_meeting(found, krawczyk(system, box, A)))
        return found

    def test_square_root(self):
        for bits in (0, 1, 20, 40, 100):
            for box, A in ((box_of((1, 2)), mat([Fraction(1, 3)])), (box_of((1, 2)), mat([Fraction(1, 10 ** 6)]))):
                ((low, high),) = self.check(TWO, box, A, bits)
                self.assertTrue(q(low) ** 2 <= 2 <= q(high) ** 2)

    def test_no_bits(self):
        self.check(TWO, box_of((1, 2)), mat([Fraction(1, 3)]), 0)
        self.check(system_of(1, "x"), box_of((-100, 1000)), ONE, 0, (num(0),))
        small = box_of((Fraction(14142, 10000), Fraction(14143, 10000)))
        self.check(TWO, small, single_paper(TWO, small), 0)

    def test_zeros_at_middles(self):
        for n in (1, 2, 3, 4):
            system = system_of(n, *["x", "y", "z", "u"][:n])
            for bits in (0, 40):
                self.check(system, around([0] * n, 8), unit(n), bits, (num(0),) * n)

    def test_flat_slopes(self):
        # Newton's step is of no use until the box is very narrow.
        for n in (1, 2, 3):
            system = system_of(n, *[f"{name}^3 + 1/999999*{name}" for name in "xyz"[:n]])
            for box in (around([0] * n, 1), around([Fraction(1, 9)] * n, 1)):
                if is_single(system, box, unit(n, Fraction(1, 4))):
                    self.check(system, box, unit(n, Fraction(1, 4)), 40, (num(0),) * n)
            self.assertIs(is_single(system, around([0] * n, 1), unit(n, Fraction(1, 4))), True)

    def test_different_scales(self):
        system = system_of(2, "1/999999*x - y", "999999*y + x*y - 1")
        box = box_of((-100, 100), (Fraction(-1, 100), Fraction(1, 100)))
        A = single_paper(system, box)
        self.assertIsNotNone(A)
        self.check(system, box, A, 40)

    def test_many(self):
        maker = Maker(65)
        for n in (1, 2, 3, 4):
            for _ in range(8 if n < 4 else 3):
                system, point, box, A = certified(maker, n)
                for bits in (0, 10, 40):
                    self.check(system, box, A, bits, point)


class Same(unittest.TestCase):
    def check(self, system, box, other, told, A=None, B=None):
        A, B = A or single_paper(system, box), B or single_paper(system, other)
        self.assertIs(is_single(system, box, A) and is_single(system, other, B), True)
        self.assertIs(same_zero(system, box, A, other, B), told)
        self.assertIs(same_zero(system, other, B, box, A), told)

    def test_some(self):
        self.check(TWO, box_of((1, 2)), box_of((1, 2)), True)
        self.check(TWO, box_of((1, 2)), box_of((Fraction(5, 4), Fraction(9, 4))), True)
        self.check(TWO, box_of((1, 2)), box_of((-2, -1)), False)
        self.check(TWO, box_of((1, 2)), box_of((Fraction(7, 5), Fraction(3, 2))), True)

    def test_same_box_with_other_papers(self):
        self.check(TWO, box_of((1, 2)), box_of((1, 2)), True, mat([Fraction(1, 3)]), mat([Fraction(1, 10 ** 6)]))

    def test_two_zeros(self):
        three = (uni(0, Fraction(-1, 4), 0, 1),)
        self.check(three, box_of((Fraction(-1, 8), Fraction(1, 9))), box_of((Fraction(9, 20), Fraction(3, 5))), False)
        self.check(CIRCLE, box_of((HALF, 2), (HALF, 2)), box_of((-2, -HALF), (-2, -HALF)), False)
        # The boxes have the same second interval, and their first ones nearly touch.
        flat = system_of(2, "x^2 - 1/4", "y - 3*x")
        self.check(flat, box_of((Fraction(1, 5), 1), (-9, 9)), box_of((-1, Fraction(-1, 5)), (-9, 9)), False)
        crossed = system_of(2, "x*y", "x + y - 1")
        around_up, around_right = around([0, 1], Fraction(1, 5)), around([1, 0], Fraction(1, 5))
        self.check(crossed, around_up, around_right, False)

    def test_zeros_very_near_to_the_boundary(self):
        plain = (uni(Fraction(-1, 3), 1),)
        for gap in (Fraction(1, 2 ** 10), Fraction(1, 2 ** 40), Fraction(1, 2 ** 90)):
            below, above = box_of((0, Fraction(1, 3) + gap)), box_of((Fraction(1, 3) - gap, 1))
            self.check(plain, below, above, True, ONE, ONE)
            self.check(plain, below, box_of((-1, Fraction(1, 3) + gap / 2)), True, ONE, ONE)

    def test_near_zeros(self):
        for gap in (Fraction(1, 10 ** 6), Fraction(1, 10 ** 20)):
            pair = (uni(-gap * gap, 0, 1),)
            first, second = box_of((gap / 5, 2 * gap)), box_of((-2 * gap, -gap / 5))
            self.check(pair, first, second, False)
            self.check(pair, first, box_of((gap / 2, 2 * gap)), True)

    def test_many(self):
        maker = Maker(66)
        for n in (1, 2, 3):
            for _ in range(6):
                system, point, box, A = certified(maker, n)
                small = narrowed(system, box, A, 6)
                other = widened(small)
                B = single_paper(system, other)
                if B is not None:
                    self.check(system, box, other, True, A, B)

    def test_overlapping_with_one_zero(self):
        maker = Maker(67)
        done = 0
        while done < 6:
            system, point, box, A = certified(maker, 2)
            size = q(box_widths(box)[0]) / 2
            shifted = around([q(x) + size / 3 for x in point], size)
            B = single_paper(system, shifted)
            if B is not None:
                done += 1
                self.check(system, box, shifted, True, A, B)


if __name__ == "__main__":
    unittest.main()

"""Promises [2.1] and [2.2]: polynomials and their functions."""

import unittest
from fractions import Fraction

from helpers import Maker, num, q, strange_values, uni, value
from rootfast.polynomials import (
    added, constant, degree, degree_in, derivative, fixed, is_polynomial, moved, multiplied, polynomial, raised,
    scaled, subtracted, value_at, variable,
)

ZEROS = {n: (0,) * n for n in range(1, 5)}


class Telling(unittest.TestCase):
    def test_polynomials(self):
        for n in range(1, 5):
            self.assertIs(is_polynomial(n, ()), True)
            self.assertIs(is_polynomial(n, ((ZEROS[n], (2, 3)),)), True)
            first, second = (0,) * n, (0,) * (n - 1) + (3,)
            self.assertIs(is_polynomial(n, ((first, (-1, 1)), (second, (5, 7)))), True)
        self.assertIs(is_polynomial(2, (((0, 5), (1, 1)), ((1, 0), (1, 1)), ((1, 30), (1, 1)))), True)

    def test_order(self):
        self.assertIs(is_polynomial(2, (((1, 0), (1, 1)), ((0, 5), (1, 1)))), False)
        self.assertIs(is_polynomial(1, (((1,), (1, 1)), ((0,), (1, 1)))), False)
        self.assertIs(is_polynomial(1, (((1,), (1, 1)), ((1,), (1, 1)))), False)
        self.assertIs(is_polynomial(1, (((0,), (1, 1)), ((2,), (1, 1)), ((1,), (1, 1)))), False)

    def test_terms_that_are_none(self):
        for term in (
            ((0,), (0, 1)), ((0,), (2, 4)), ((-1,), (1, 1)), ((0, 0), (1, 1)), ((), (1, 1)), ([0], (1, 1)),
            ((0,), [1, 1]), [(0,), (1, 1)], ((True,), (1, 1)), ((0,), (True, 1)), ((0,), 1), (0, (1, 1)), ((0,),),
            ((0,), (1, 1), 2), ((None,), (1, 1)), ((1.0,), (1, 1)), (("1",), (1, 1)), None, "ab", (), ((0,), None),
        ):
            self.assertIs(is_polynomial(1, (term,)), False, term)
        self.assertIs(is_polynomial(2, (((0,), (1, 1)),)), False)
        self.assertIs(is_polynomial(3, (((0, 0, 0, 0), (1, 1)),)), False)

    def test_wrong_kinds(self):
        self.assertIs(is_polynomial(1, [((0,), (1, 1))]), False)
        self.assertIs(is_polynomial(1, ((0,), (1, 1))), False)
        for n in range(1, 5):
            for x in strange_values():
                self.assertIs(is_polynomial(n, x), False)


class Making(unittest.TestCase):
    def test_sums_of_terms(self):
        pairs = [((2,), (1, 2)), ((0,), (3, 1)), ((2,), (1, 3)), ((1,), (0, 1)), ((2,), (1, 6))]
        self.assertEqual(polynomial(1, pairs), uni(3, 0, 1))

    def test_terms_that_cancel(self):
        self.assertEqual(polynomial(1, [((1,), (1, 2)), ((1,), (-1, 2))]), ())
        self.assertEqual(polynomial(2, []), ())
        self.assertEqual(polynomial(2, [((1, 1), (0, 1))]), ())

    def test_order(self):
        pairs = [((1, 0), (1, 1)), ((0, 2), (2, 1)), ((0, 0), (3, 1)), ((1, 1), (4, 1))]
        made = polynomial(2, pairs)
        self.assertEqual([e for e, c in made], [(0, 0), (0, 2), (1, 0), (1, 1)])
        self.assertIs(is_polynomial(2, made), True)

    def test_the_list_stays(self):
        pairs = [((1,), (1, 1)), ((1,), (2, 1)), ((0,), (0, 1))]
        polynomial(1, pairs)
        self.assertEqual(pairs, [((1,), (1, 1)), ((1,), (2, 1)), ((0,), (0, 1))])

    def test_constants_and_variables(self):
        for n in range(1, 5):
            self.assertEqual(constant(n, (0, 1)), ())
            self.assertEqual(constant(n, (-2, 3)), ((ZEROS[n], (-2, 3)),))
            for k in range(n):
                exponents = tuple(int(i == k) for i in range(n))
                self.assertEqual(variable(n, k), ((exponents, (1, 1)),))


class Reckoning(unittest.TestCase):
    def test_against_values(self):
        maker = Maker(3)
        for n in range(1, 5):
            for _ in range(25):
                p, r = maker.polynomial(n, 6, 3), maker.polynomial(n, 5, 3)
                x, factor = maker.point(n), maker.number()
                at = [q(c) for c in x]
                made = {
                    added(p, r): value(p, at) + value(r, at),
                    subtracted(p, r): value(p, at) - value(r, at),
                    multiplied(p, r): value(p, at) * value(r, at),
                    scaled(p, factor): value(p, at) * q(factor),
                    raised(n, p, 3): value(p, at) ** 3,
                }
                for polynomial_made, expected in made.items():
                    self.assertTrue(is_polynomial(n, polynomial_made))
                    self.assertEqual(value(polynomial_made, at), expected)
                    self.assertEqual(value_at(polynomial_made, x), num(expected))

    def test_zero(self):
        p = uni(1, 2)
        self.assertEqual(added(p, ()), p)
        self.assertEqual(added((), ()), ())
        self.assertEqual(subtracted((), p), uni(-1, -2))
        self.assertEqual(subtracted(p, p), ())
        self.assertEqual(multiplied(p, ()), ())
        self.assertEqual(multiplied((), p), ())
        self.assertEqual(scaled(p, (0, 1)), ())
        self.assertEqual(raised(1, (), 0), uni(1))
        self.assertEqual(raised(1, (), 2), ())
        self.assertEqual(derivative((), 0), ())
        self.assertEqual(value_at((), ((1, 2),)), (0, 1))
        self.assertEqual(moved(2, (), ((1, 2), (1, 1))), ())
        self.assertEqual(fixed(2, (), 0, (1, 1)), ())

    def test_cancelling(self):
        self.assertEqual(multiplied(uni(1, 1), uni(-1, 1)), uni(-1, 0, 1))
        self.assertEqual(added(uni(1, Fraction(1, 2)), uni(1, Fraction(-1, 2))), uni(2))

    def test_raised(self):
        self.assertEqual(raised(1, uni(1, 1), 0), uni(1))
        self.assertEqual(raised(1, uni(1, 1), 1), uni(1, 1))
        self.assertEqual(raised(1, uni(1, 1), 5), uni(1, 5, 10, 10, 5, 1))
        self.assertEqual(raised(3, variable(3, 1), 24), (((0, 24, 0), (1, 1)),))


class Changing(unittest.TestCase):
    def test_derivative(self):
        p = (((0, 0), (5, 1)), ((0, 3), (1, 2)), ((1, 1), (2, 1)), ((2, 0), (1, 4)))
        self.assertEqual(derivative(p, 0), (((0, 1), (2, 1)), ((1, 0), (1, 2))))
        self.assertEqual(derivative(p, 1), (((0, 2), (3, 2)), ((1, 0), (2, 1))))
        self.assertEqual(derivative(constant(2, (5, 1)), 1), ())

    def test_value_at(self):
        p = (((0, 0), (5, 1)), ((1, 2), (-2, 3)))
        self.assertEqual(value_at(p, ((3, 1), (1, 2))), (9, 2))
        self.assertEqual(value_at(p, ((0, 1), (0, 1))), (5, 1))
        self.assertEqual(value_at(uni(-2, 0, 1), ((-3, 2),)), (1, 4))

    def test_moved(self):
        maker = Maker(4)
        for n in range(1, 5):
            for _ in range(20):
                p, by, x = maker.polynomial(n, 6, 4), maker.point(n), maker.point(n)
                made = moved(n, p, by)
                self.assertTrue(is_polynomial(n, made))
                together = [q(a) + q(b) for a, b in zip(x, by)]
                self.assertEqual(value(made, [q(a) for a in x]), value(p, together))
                self.assertEqual(moved(n, made, tuple((-a, b) for a, b in by)), p)
                self.assertEqual(moved(n, p, ((0, 1),) * n), p)
        self.assertEqual(moved(1, uni(0, 0, 1), ((3, 1),)), uni(9, 6, 1))

    def test_fixed(self):
        p = (((0, 0, 1), (1, 1)), ((1, 2, 0), (3, 1)), ((1, 2, 3), (1, 2)))
        self.assertEqual(fixed(3, p, 0, (2, 1)), (((0, 1), (1, 1)), ((2, 0), (6, 1)), ((2, 3), (1, 1))))
        self.assertEqual(fixed(3, p, 1, (0, 1)), (((0, 1), (1, 1)),))
        self.assertEqual(fixed(3, p, 2, (0, 1)), (((1, 2), (3, 1)),))
        self.assertEqual(fixed(2, (((0, 1), (1, 1)), ((1, 0), (-1, 1))), 0, (0, 1)), uni(0, 1))
        maker = Maker(5)
        for n in range(2, 5):
            for k in range(n):
                p, x, point = maker.polynomial(n, 8, 3), maker.number(), maker.point(n - 1)
                made = fixed(n, p, k, x)
                self.assertTrue(is_polynomial(n - 1, made))
                rest = [q(c) for c in point]
                self.assertEqual(value(made, rest), value(p, rest[:k] + [q(x)] + rest[k:]))

    def test_degrees(self):
        p = (((0, 5), (1, 1)), ((3, 1), (1, 1)), ((4, 0), (1, 1)))
        self.assertEqual([degree(p), degree_in(p, 0), degree_in(p, 1)], [5, 4, 5])
        self.assertEqual([degree(()), degree_in((), 0), degree_in((), 1)], [-1, -1, -1])
        self.assertEqual([degree(uni(7)), degree_in(uni(7), 0)], [0, 0])
        self.assertEqual([degree_in(constant(4, (1, 2)), k) for k in range(4)], [0] * 4)


if __name__ == "__main__":
    unittest.main()

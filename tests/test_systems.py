"""Promise [2.3]: systems, their values and the matrix of their partial derivatives."""

import unittest

from helpers import Maker, num, q, strange_values, uni, value
from rootfast.matrices import is_matrix
from rootfast.polynomials import constant, derivative, variable
from rootfast.systems import is_system, jacobian, values_at

CIRCLE = (((0, 0), (-2, 1)), ((0, 2), (1, 1)), ((2, 0), (1, 1)))
LINE = (((0, 1), (-1, 1)), ((1, 0), (1, 1)))


class Telling(unittest.TestCase):
    def test_systems(self):
        self.assertIs(is_system(1, (uni(-2, 0, 1),)), True)
        self.assertIs(is_system(2, (CIRCLE, LINE)), True)
        self.assertIs(is_system(2, (CIRCLE,)), True)
        self.assertIs(is_system(2, (CIRCLE, LINE, CIRCLE, ())), True)
        for n in range(1, 5):
            self.assertIs(is_system(n, ((),)), True)
            self.assertIs(is_system(n, (variable(n, n - 1), constant(n, (1, 2)))), True)

    def test_none(self):
        for wrong in (
            (), [CIRCLE, LINE], (CIRCLE, list(LINE)), (CIRCLE, None), (CIRCLE, uni(1)), CIRCLE, LINE, (CIRCLE, True),
            (CIRCLE, (((0, 1), (2, 4)),)), (CIRCLE, (((0, 1), (0, 1)),)), (CIRCLE, LINE[::-1]), "CIRCLE", None,
        ):
            self.assertIs(is_system(2, wrong), False)
        self.assertIs(is_system(1, (CIRCLE,)), False)
        self.assertIs(is_system(3, (CIRCLE, LINE)), False)
        for n in range(1, 5):
            for x in strange_values():
                # A tuple of empty tuples only is the system of as many polynomials 0.
                if type(x) is tuple and len(x) == 2 and type(x[0]) is tuple and x[0] == () and x[1] == ():
                    self.assertIs(is_system(n, x), True)
                else:
                    self.assertIs(is_system(n, x), False)


class Values(unittest.TestCase):
    def test_values(self):
        self.assertEqual(values_at((CIRCLE, LINE), ((1, 2), (2, 1))), ((9, 4), (-3, 2)))
        self.assertEqual(values_at((CIRCLE,), ((1, 1), (1, 1))), ((0, 1),))
        self.assertEqual(values_at(((), LINE, ()), ((1, 2), (0, 1))), ((0, 1), (1, 2), (0, 1)))

    def test_jacobian(self):
        self.assertEqual(jacobian(2, (CIRCLE, LINE), ((1, 2), (2, 1))), (((1, 1), (4, 1)), ((1, 1), (-1, 1))))
        self.assertEqual(jacobian(1, (uni(-2, 0, 1), uni(5), uni(0, 3)), ((7, 2),)), (((7, 1),), ((0, 1),), ((3, 1),)))
        self.assertEqual(jacobian(2, (CIRCLE,), ((0, 1), (0, 1))), (((0, 1), (0, 1)),))
        self.assertEqual(jacobian(3, ((),), ((0, 1),) * 3), (((0, 1),) * 3,))

    def test_more_and_fewer_polynomials_than_variables(self):
        maker = Maker(6)
        for n in range(1, 5):
            for many in range(1, 6):
                system = tuple(maker.polynomial(n, 5, 3) for _ in range(many))
                point = maker.point(n)
                at = [q(c) for c in point]
                self.assertEqual(values_at(system, point), tuple(num(value(p, at)) for p in system))
                matrix = jacobian(n, system, point)
                self.assertIs(is_matrix(many, n, matrix), True)
                expected = tuple(tuple(num(value(derivative(p, k), at)) for k in range(n)) for p in system)
                self.assertEqual(matrix, expected)


if __name__ == "__main__":
    unittest.main()

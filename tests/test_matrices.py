"""Promise [2.4]: matrices."""

import itertools
import unittest
from fractions import Fraction

from helpers import Maker, num, q, strange_values
from rootfast.matrices import applied, determinant, inverse, is_matrix, matrix_product, rank, transposed


def mat(*rows):
    return tuple(tuple(num(x) for x in row) for row in rows)


def unit(n):
    return mat(*[[int(i == j) for j in range(n)] for i in range(n)])


def told_determinant(matrix):
    """The determinant as the sum over all permutations."""
    n = len(matrix)
    total = Fraction(0)
    for order in itertools.permutations(range(n)):
        term = Fraction((-1) ** sum(a > b for a, b in itertools.combinations(order, 2)))
        for i, j in enumerate(order):
            term *= q(matrix[i][j])
        total += term
    return num(total)


def told_rank(matrix):
    """The greatest size of a choice of rows and columns with a determinant other than 0."""
    rows, columns = len(matrix), len(matrix[0])
    for size in range(min(rows, columns), 0, -1):
        for r in itertools.combinations(range(rows), size):
            for c in itertools.combinations(range(columns), size):
                if told_determinant([[matrix[i][j] for j in c] for i in r]) != (0, 1):
                    return size
    return 0


class Telling(unittest.TestCase):
    def test_matrices(self):
        self.assertIs(is_matrix(1, 1, mat([5])), True)
        self.assertIs(is_matrix(1, 3, mat([1, 2, Fraction(1, 3)])), True)
        self.assertIs(is_matrix(3, 1, mat([1], [2], [0])), True)
        self.assertIs(is_matrix(2, 2, mat([0, 0], [0, 0])), True)

    def test_none(self):
        good = mat([1, 2], [3, 4])
        for rows, columns in ((1, 2), (2, 1), (2, 3), (3, 2), (1, 1), (4, 1), (0, 0), (0, 2), (2, 0)):
            self.assertIs(is_matrix(rows, columns, good), False)
        for wrong in (
            (), ((),), ((), ()), [[1, 2], [3, 4]], list(good), (list(good[0]), good[1]), (good[0], good[1][:1]),
            (good[0],), good + (good[0],), ((1, 2), (3, 4)), (good[0], None), (good[0], ((1, 1), (2, 4))),
            (good[0], ((1, 1), (True, 1))), (good[0], ((1, 1), [1, 1])), (good[0], ((1, 1), (1, 1), (1, 1))), None, "ab",
        ):
            self.assertIs(is_matrix(2, 2, wrong), False)
        for value in ((), ((),), ((), ())):
            self.assertIs(is_matrix(0, 0, value), False)
            self.assertIs(is_matrix(len(value), 0, value), False)
            self.assertIs(is_matrix(0, 2, value), False)
        for rows, columns in itertools.product(range(1, 4), range(1, 4)):
            for x in strange_values():
                self.assertIs(is_matrix(rows, columns, x), False)


class Determinants(unittest.TestCase):
    def test_some(self):
        self.assertEqual(determinant(mat([Fraction(-2, 3)])), (-2, 3))
        self.assertEqual(determinant(mat([0])), (0, 1))
        self.assertEqual(determinant(mat([0, 1], [1, 0])), (-1, 1))
        self.assertEqual(determinant(mat([1, 2], [2, 4])), (0, 1))
        self.assertEqual(determinant(mat([1, 2, 3], [0, 0, 0], [4, 5, 7])), (0, 1))
        self.assertEqual(determinant(mat([1, 2, 3], [1, 2, 3], [4, 5, 7])), (0, 1))
        self.assertEqual(determinant(mat([0, 0, 2], [0, 3, 0], [5, 0, 0])), (-30, 1))
        self.assertEqual(determinant(mat([0, 2, 1], [0, 4, 5], [0, 1, 1])), (0, 1))

    def test_against_permutations(self):
        maker = Maker(7)
        for n in range(1, 6):
            for _ in range(12):
                matrix = maker.matrix(n, n)
                self.assertEqual(determinant(matrix), told_determinant(matrix))


class Inverses(unittest.TestCase):
    def test_some(self):
        self.assertEqual(inverse(mat([2, 1], [1, 1])), mat([1, -1], [-1, 2]))
        self.assertEqual(inverse(mat([Fraction(2, 3)])), mat([Fraction(3, 2)]))
        self.assertEqual(inverse(mat([0, 1], [1, 0])), mat([0, 1], [1, 0]))
        for singular in (
            mat([0]), mat([1, 2], [2, 4]), mat([0, 0], [0, 0]), mat([1, 1], [1, 1]), mat([0, 1], [0, 2]),
            mat([1, 2, 3], [4, 5, 6], [7, 8, 9]), mat([1, 0, 0], [0, 0, 0], [0, 0, 1]),
        ):
            self.assertIsNone(inverse(singular))

    def test_products_with_inverses(self):
        maker = Maker(8)
        for n in range(1, 7):
            for _ in range(10):
                matrix = maker.matrix(n, n)
                found = inverse(matrix)
                if determinant(matrix) == (0, 1):
                    self.assertIsNone(found)
                    continue
                self.assertIs(is_matrix(n, n, found), True)
                self.assertEqual(matrix_product(matrix, found), unit(n))
                self.assertEqual(matrix_product(found, matrix), unit(n))


class Ranks(unittest.TestCase):
    def test_some(self):
        self.assertEqual(rank(mat([0])), 0)
        self.assertEqual(rank(mat([0, 0, 0], [0, 0, 0])), 0)
        self.assertEqual(rank(mat([0, 0, Fraction(1, 7)])), 1)
        self.assertEqual(rank(mat([1, 2], [1, 2], [1, 2])), 1)
        self.assertEqual(rank(mat([1, 2], [2, 4], [0, 0], [0, 1])), 2)
        self.assertEqual(rank(mat([1, 2, 3, 4], [2, 4, 6, 8], [0, 0, 0, 1])), 2)
        self.assertEqual(rank(mat([1], [0], [2])), 1)
        self.assertEqual(rank(unit(5)), 5)

    def test_against_determinants(self):
        maker = Maker(9)
        for rows in range(1, 5):
            for columns in range(1, 5):
                for most in range(4):
                    inner = max(1, min(most, rows, columns))
                    matrix = matrix_product(maker.matrix(rows, inner), maker.matrix(inner, columns))
                    self.assertEqual(rank(matrix), told_rank(matrix))
                    self.assertEqual(rank(transposed(matrix)), rank(matrix))


class SmallOnes(unittest.TestCase):
    def test_all_with_few_numbers(self):
        for entries in itertools.product((0, 1, Fraction(-1, 2)), repeat=4):
            self.check(mat(entries[:2], entries[2:]))
        for entries in itertools.product((0, 1), repeat=9):
            self.check(mat(entries[:3], entries[3:6], entries[6:]))
        for entries in itertools.product((0, 1, -2), repeat=3):
            self.assertEqual(rank(mat(entries)), int(any(entries)))

    def check(self, matrix):
        told = told_determinant(matrix)
        self.assertEqual(determinant(matrix), told)
        self.assertEqual(rank(matrix), told_rank(matrix))
        found = inverse(matrix)
        if told == (0, 1):
            self.assertIsNone(found)
        else:
            self.assertEqual(matrix_product(matrix, found), unit(len(matrix)))


class Products(unittest.TestCase):
    def test_applied(self):
        self.assertEqual(applied(mat([1, 2], [3, 4], [0, 0]), ((1, 2), (-1, 4))), ((0, 1), (1, 2), (0, 1)))
        self.assertEqual(applied(mat([5]), ((1, 5),)), ((1, 1),))

    def test_transposed(self):
        self.assertEqual(transposed(mat([1, 2, 3], [4, 5, 6])), mat([1, 4], [2, 5], [3, 6]))
        self.assertEqual(transposed(mat([1, 2, 3])), mat([1], [2], [3]))

    def test_products(self):
        self.assertEqual(matrix_product(mat([1, 2]), mat([3], [4])), mat([11]))
        self.assertEqual(matrix_product(mat([3], [4]), mat([1, 2])), mat([3, 6], [4, 8]))
        self.assertEqual(matrix_product(mat([1, 2], [0, 1]), mat([1, 0, 2], [3, 1, 1])), mat([7, 2, 4], [3, 1, 1]))
        maker = Maker(10)
        first, second, third = maker.matrix(2, 3), maker.matrix(3, 4), maker.matrix(4, 1)
        left = matrix_product(matrix_product(first, second), third)
        self.assertEqual(left, matrix_product(first, matrix_product(second, third)))
        column = tuple(row[0] for row in third)
        self.assertEqual(applied(second, column), tuple(row[0] for row in matrix_product(second, third)))


if __name__ == "__main__":
    unittest.main()

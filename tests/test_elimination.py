"""Promises [12.1] to [12.3]: resultants, papers for them, and counted zeros in the plane."""

import itertools
import unittest
from fractions import Fraction

from helpers import Maker, Odd, from_factors, num, strange_values, system_of, uni, value
from rootfast.elimination import (
    check_elimination, column_counts, elimination_paper, resultant, zero_count, zeros_above,
)
from rootfast.errors import Endless, NotUpright, RootfastError
from rootfast.multiple import multiplicity
from rootfast.polynomials import (
    added, constant, degree, degree_in, fixed, is_polynomial, multiplied, polynomial, raised, scaled, variable,
)
from rootfast.single import common_divisor, parts
from rootfast.texts import read_polynomial

CIRCLE, LINE = system_of(2, "x^2 + y^2 - 2", "x - y")


def rows_of(n, p, r, k):
    """Sylvester's matrix, entry by entry as the document tells it."""
    d, e = degree_in(p, k), degree_in(r, k)

    def entry(f, power):
        return polynomial(n - 1, [(x[:k] + x[k + 1:], c) for x, c in f if x[k] == power])

    rows = [[entry(p, d - j + i) if i <= j <= i + d else () for j in range(d + e)] for i in range(e)]
    return rows + [[entry(r, e - j + i) if i <= j <= i + e else () for j in range(d + e)] for i in range(d)]


def expanded(n, rows):
    """The determinant of a matrix of polynomials, along its first row."""
    if not rows:
        return constant(n, (1, 1))
    total = ()
    for j, entry in enumerate(rows[0]):
        if entry:
            product = multiplied(entry, expanded(n, [row[:j] + row[j + 1:] for row in rows[1:]]))
            total = added(total, scaled(product, num((-1) ** j)))
    return total


def slow_resultant(n, p, r, k):
    return expanded(n - 1, rows_of(n, p, r, k)) if p and r else ()


def put_in(p, k):
    """The polynomial with one variable more, which does not occur in it."""
    return tuple((e[:k] + (0,) + e[k:], c) for e, c in p)


def made_pairs(maker, many):
    """Tuples of n, two polynomials and the index of a variable."""
    made = 0
    while made < many:
        n = maker.random.randint(2, 4)
        k = maker.random.randrange(n)
        p = maker.polynomial(n, maker.random.randint(0, 5), maker.random.randint(1, 3))
        r = maker.polynomial(n, maker.random.randint(1, 5), maker.random.randint(1, 3))
        if degree_in(p, k) + degree_in(r, k) < 6:
            made += 1
            yield n, p, r, k


class Resultants(unittest.TestCase):
    def test_known_ones(self):
        self.assertEqual(resultant(2, CIRCLE, LINE, 1), uni(-2, 0, 2))
        self.assertEqual(resultant(2, CIRCLE, LINE, 0), uni(-2, 0, 2))
        p, r = system_of(2, "x^2*y^2 - 3", "y - x + 1/2")
        self.assertEqual(resultant(2, p, r, 1), read_polynomial(1, "x^2*(x - 1/2)^2 - 3"))
        self.assertEqual(resultant(2, r, p, 1), read_polynomial(1, "x^2*(x - 1/2)^2 - 3"))
        p, r = system_of(3, "z - x", "z - y")
        # The sign is that of the rows in their order.
        self.assertEqual(resultant(3, p, r, 2), read_polynomial(2, "x - y"))
        self.assertEqual(resultant(3, r, p, 2), read_polynomial(2, "y - x"))
        p, r = system_of(3, "y^2 + x*y + z", "2*y + x")
        self.assertEqual(resultant(3, p, r, 1), read_polynomial(2, "4*y - x^2"))

    def test_great_exponents(self):
        p, r = (((0, 0, 3), (1, 1)), ((0, 40, 0), (-1, 1))), (((0, 40, 3), (1, 1)), ((1, 0, 0), (-1, 1)))
        expected = raised(2, (((0, 80), (1, 1)), ((1, 0), (-1, 1))), 3)
        self.assertEqual(resultant(3, p, r, 2), expected)
        self.assertEqual(resultant(3, p, (((1000000, 1, 1), (1, 1)),), 2), (((3000000, 43), (1, 1)),))
        a, b = elimination_paper(3, p, r, 2)
        self.assertEqual(added(multiplied(a, p), multiplied(b, r)), put_in(expected, 2))

    def test_order_of_the_other_variables(self):
        p, r = system_of(4, "u - x^2", "u - y*z^3")
        self.assertEqual(resultant(4, p, r, 3), read_polynomial(3, "x^2 - y*z^3"))
        p, r = system_of(4, "x - y^2", "x - z*u^3")
        self.assertEqual(resultant(4, p, r, 0), read_polynomial(3, "x^2 - y*z^3"))
        p, r = system_of(4, "y - x^2", "y - z*u^3")
        self.assertEqual(resultant(4, p, r, 1), read_polynomial(3, "x^2 - y*z^3"))

    def test_one_of_them_is_0(self):
        for n in (2, 3, 4):
            for k in range(n):
                for p in (variable(n, k), constant(n, (3, 1)), ()):
                    self.assertEqual(resultant(n, (), p, k), ())
                    self.assertEqual(resultant(n, p, (), k), ())

    def test_degrees_0(self):
        p, r = system_of(2, "3*x - 1", "2*y^3 + x")
        self.assertEqual(resultant(2, p, r, 1), raised(1, uni(-1, 3), 3))
        self.assertEqual(resultant(2, r, p, 1), raised(1, uni(-1, 3), 3))
        self.assertEqual(resultant(2, p, constant(2, (5, 1)), 1), uni(1))
        self.assertEqual(resultant(3, constant(3, (5, 1)), variable(3, 0), 2), constant(2, (1, 1)))
        self.assertEqual(resultant(2, constant(2, (-2, 3)), variable(2, 1), 1), uni(Fraction(-2, 3)))

    def test_equal_ones_and_common_factors(self):
        for texts in (("x^2 + y^2 - 2", "x^2 + y^2 - 2"), ("x*y - x", "y^2 - 1"), ("(x - y)*(x + 1)", "(x - y)*y^2")):
            p, r = system_of(2, *texts)
            self.assertEqual(resultant(2, p, r, 1), ())
        p = read_polynomial(2, "x^2 - 3")
        self.assertEqual(resultant(2, p, p, 1), uni(1))

    def test_against_the_first_row(self):
        for n, p, r, k in made_pairs(Maker(111), 150):
            found = resultant(n, p, r, k)
            self.assertTrue(is_polynomial(n - 1, found))
            self.assertEqual(found, slow_resultant(n, p, r, k))

    def test_many_rows(self):
        for d, e in itertools.product(range(5), repeat=2):
            maker = Maker(112)
            p = tuple(((i, j), maker.number()) for i in range(2) for j in range(d + 1))
            r = tuple(((i, j), maker.number()) for i in range(2) for j in range(e + 1))
            p, r = (tuple((x, c) for x, c in f if c[0] != 0) for f in (p, r))
            found = resultant(2, p, r, 1)
            for x in (Fraction(0), Fraction(1, 2), Fraction(-3)):
                rows = [[value(f, [x]) for f in row] for row in rows_of(2, p, r, 1)]
                self.assertEqual(value(found, [x]), number_determinant(rows))

    def test_common_zeros(self):
        maker = Maker(113)
        for n, p, r, k in made_pairs(maker, 60):
            point = [Fraction(x[0], x[1]) for x in maker.point(n)]
            p, r = (added(f, constant(n, num(-value(f, point)))) for f in (p, r))
            if degree_in(p, k) > 0 or degree_in(r, k) > 0:
                self.assertEqual(value(resultant(n, p, r, k), point[:k] + point[k + 1:]), 0)


def number_determinant(rows):
    """The determinant of fractions, by elimination."""
    rows = [list(row) for row in rows]
    result = Fraction(1)
    for k in range(len(rows)):
        at = next((i for i in range(k, len(rows)) if rows[i][k]), None)
        if at is None:
            return Fraction(0)
        if at != k:
            rows[k], rows[at] = rows[at], rows[k]
            result = -result
        result *= rows[k][k]
        for i in range(k + 1, len(rows)):
            factor = rows[i][k] / rows[k][k]
            rows[i] = [a - factor * b for a, b in zip(rows[i], rows[k])]
    return result


class Papers(unittest.TestCase):
    def test_papers(self):
        a, b = elimination_paper(2, CIRCLE, LINE, 1)
        self.assertEqual((a, b), system_of(2, "1", "y + x"))
        seen = set()
        for n, p, r, k in made_pairs(Maker(114), 200):
            d, e = degree_in(p, k), degree_in(r, k)
            found = elimination_paper(n, p, r, k)
            full = resultant(n, p, r, k)
            seen.add((full == (), d < 1, e < 1))
            if full == () or d < 1 or e < 1:
                self.assertIsNone(found)
                continue
            self.assertIs(type(found), tuple)
            a, b = found
            self.assertEqual(added(multiplied(a, p), multiplied(b, r)), put_in(full, k))
            self.assertLess(degree_in(a, k), e)
            self.assertLess(degree_in(b, k), d)
            self.assertIs(check_elimination(n, p, r, k, found), True)
        self.assertLessEqual({(False, False, False), (False, True, False), (False, False, True)}, seen)

    def test_none(self):
        for texts in (
            ("x - y", "x^2 - y^2"), ("0", "y"), ("y", "0"), ("0", "0"), ("x", "y"), ("y", "x"), ("x", "x + 1"), ("3", "4"),
            ("x^2 + y^2 - 2", "x^2 + y^2 - 2"),
        ):
            p, r = system_of(2, *texts)
            self.assertIsNone(elimination_paper(2, p, r, 1), texts)

    def test_times_a_polynomial(self):
        a, b = elimination_paper(2, CIRCLE, LINE, 1)
        for text, expected in (("x^3 - 1/2", True), ("7", True), ("-x", True), ("y", False), ("x + y", False), ("0", False)):
            f = read_polynomial(2, text)
            self.assertIs(check_elimination(2, CIRCLE, LINE, 1, (multiplied(f, a), multiplied(f, b))), expected)

    def test_other_papers(self):
        a, b = elimination_paper(2, CIRCLE, LINE, 1)
        # The same sum by a multiple of both.
        f = read_polynomial(2, "x*y - 3")
        more = (added(a, multiplied(f, LINE)), added(b, scaled(multiplied(f, CIRCLE), (-1, 1))))
        self.assertIs(check_elimination(2, CIRCLE, LINE, 1, more), True)
        p, r = system_of(2, "x", "y")
        self.assertIs(check_elimination(2, p, r, 1, system_of(2, "1", "0")), True)
        self.assertIs(check_elimination(2, p, r, 0, system_of(2, "1", "0")), False)
        self.assertIs(check_elimination(2, p, r, 0, system_of(2, "0", "1")), True)
        self.assertIs(check_elimination(2, p, r, 1, system_of(2, "0", "0")), False)
        self.assertIs(check_elimination(2, p, (), 1, system_of(2, "1", "y")), True)
        self.assertIs(check_elimination(2, (), (), 1, system_of(2, "1", "1")), False)
        self.assertIs(check_elimination(2, p, p, 1, system_of(2, "1", "-1")), False)
        self.assertIs(check_elimination(3, variable(3, 1), variable(3, 1), 1, system_of(3, "z", "-z")), False)

    def test_changed_ones(self):
        for n, texts, k in ((2, ("x^2*y + y^3 - 2", "x - y^2"), 1), (3, ("x*z^2 - y", "z^2 + z + x"), 2)):
            p, r = system_of(n, *texts)
            a, b = elimination_paper(n, p, r, k)
            self.assertIs(check_elimination(n, p, r, k, (a, b)), True)
            for wrong in ((b, a), (a, ()), ((), b), (a, scaled(b, (-1, 1))), (a, a), (added(a, variable(n, k)), b)):
                self.assertIs(check_elimination(n, p, r, k, wrong), False, wrong)
            for at in range(len(a)):
                changed = a[:at] + ((a[at][0], (a[at][1][0] + a[at][1][1], a[at][1][1])),) + a[at + 1:]
                if is_polynomial(n, changed):
                    self.assertIs(check_elimination(n, p, r, k, (changed, b)), False)
            self.assertIs(check_elimination(n, r, p, k, (a, b)), False)

    def test_wrong_forms(self):
        a, b = elimination_paper(2, CIRCLE, LINE, 1)
        for wrong in (
            [a, b], (list(a), b), (a, list(b)), (a,), (a, b, ()), (a, None), (None, b), (a, "x"), ("1", "0"), (a, True), (), a,
            ((((0, 0), (True, 1)),), b), ((((0, 0), (2, 2)),), b), ((((False, 0), (1, 1)),), b), ((((0,), (1, 1)),), b),
            ((((0, 0, 0), (1, 1)),), b), ((((0, 0), (0, 1)),), b), ((((1, 0), (1, 1)), ((0, 0), (1, 1))), b), {0: a, 1: b},
            (a, Odd()), Odd(), (((-1, 0), (1, 1)), b),
        ):
            self.assertIs(check_elimination(2, CIRCLE, LINE, 1, wrong), False, wrong)
        for strange in strange_values():
            for wrong in (strange, (strange,)):
                self.assertIs(check_elimination(2, CIRCLE, LINE, 1, wrong), False)
            if type(strange) is not tuple or strange:
                self.assertIs(check_elimination(2, CIRCLE, LINE, 1, (a, strange)), False)
                self.assertIs(check_elimination(2, CIRCLE, LINE, 1, (strange, b)), False)


# Upright pairs with their parts, from all their zeros.
PAIRS = [
    (("x^2 + y^2 - 2", "x - y"), [(1, uni(-1, 0, 1))]),
    (("y^2 - x", "y"), [(1, uni(0, 1))]),
    (("y^2 - x^3", "y"), [(3, uni(0, 1))]),
    (("y - x^2", "y^2"), [(4, uni(0, 1))]),
    (("y^2 - 1", "y - x^2"), [(1, uni(-1, 0, 0, 0, 1))]),
    (("y^2 - x^2", "y^2 + x^2 - 2"), [(2, uni(-1, 0, 1))]),
    (("y^3 + x", "2*y^2 - 3*y + x*y"), [(1, from_factors([0, 1], [-27, 19, -9, 1]))]),
    (("y", "y - 1"), []),
    (("1/2*y + x", "3*y + 6*x - 5"), []),
    (("y*(y - 1)", "(y - x)^2"), [(2, uni(0, -1, 1))]),
]


class Plane(unittest.TestCase):
    def test_counts(self):
        for texts, expected in PAIRS:
            p, r = system_of(2, *texts)
            self.assertEqual(column_counts(p, r), expected, texts)
            self.assertEqual(column_counts(r, p), expected)
            self.assertEqual(zero_count(p, r), sum(k * degree(f) for k, f in expected))
            self.assertIs(type(column_counts(p, r)), list)

    def test_counts_are_those_of_the_resultant(self):
        maker = Maker(115)
        for _ in range(40):
            p, r = (added(maker.polynomial(2, 3, 2), (((0, 3), maker.figures(2)),)) for _ in range(2))
            full = resultant(2, p, r, 1)
            if full:
                self.assertEqual(column_counts(p, r), parts(full))
                self.assertEqual(zero_count(p, r), degree(full))

    def test_multiplicities_add_up(self):
        # Five zeros with rational coordinates are all there are.
        p, r = system_of(2, "(y - x)*(y + x - 2)", "(y - 1)*(y - x^2)")
        zeros = [(1, 1), (0, 0), (-2, 4)]
        found = {x: multiplicity(2, (p, r), (num(x), num(y)), 8) for x, y in zeros}
        self.assertEqual(found, {1: 4, 0: 1, -2: 1})
        self.assertEqual(column_counts(p, r), [(1, from_factors([0, 1], [2, 1])), (4, uni(-1, 1))])
        self.assertEqual(zero_count(p, r), sum(found.values()))

    def test_zeros_above(self):
        self.assertEqual(zeros_above(CIRCLE, LINE, (1, 1)), uni(-1, 1))
        self.assertEqual(zeros_above(CIRCLE, LINE, (2, 1)), uni(1))
        p, r = system_of(2, "y^2 - x", "y^2 - x^2")
        self.assertEqual(zeros_above(p, r, (1, 1)), uni(-1, 0, 1))
        self.assertEqual(zeros_above(p, r, (0, 1)), uni(0, 0, 1))
        self.assertEqual(zeros_above(p, r, (1, 2)), uni(1))
        p, r = system_of(2, "2*y^2 - 3*x*y + x^2", "3*y - 3*x")
        for x in (Fraction(2, 7), -4):
            self.assertEqual(zeros_above(p, r, num(x)), uni(-x, 1))
        maker = Maker(116)
        for _ in range(30):
            p, r = (added(maker.polynomial(2, 3, 2), (((0, 3), maker.figures(2)),)) for _ in range(2))
            x = maker.number()
            self.assertEqual(zeros_above(p, r, x), common_divisor(fixed(2, p, 0, x), fixed(2, r, 0, x)))

    def test_not_upright(self):
        for text in ("0", "3", "x", "x^2 - 1", "x*y", "x*y + y", "x*y^2 + y", "y^2 + x*y^2 + 1", "(x - 1)*y^3 + y^2"):
            wrong = read_polynomial(2, text)
            for p, r in ((wrong, LINE), (LINE, wrong), (wrong, wrong)):
                for function in (column_counts, zero_count):
                    with self.assertRaises(NotUpright):
                        function(p, r)
                with self.assertRaises(NotUpright):
                    zeros_above(p, r, (1, 2))

    def test_upright(self):
        for text in ("y", "-2/3*y + x^5", "y^2 + x*y", "x^4*y^2 - 5*y^3"):
            p = read_polynomial(2, text)
            self.assertEqual(zero_count(p, read_polynomial(2, "y - 7")), degree_in(fixed(2, p, 1, (7, 1)), 0))
            zeros_above(p, p, (0, 1))

    def test_endless(self):
        for texts in (("x - y", "x - y"), ("(y - x)*(y + 1)", "(y - x)*(y^2 - 2)"), ("y^2 - x", "2*y^2 - 2*x")):
            p, r = system_of(2, *texts)
            for function in (column_counts, zero_count):
                with self.assertRaises(Endless):
                    function(p, r)
        self.assertEqual(zeros_above(*system_of(2, "2*y - 2*x", "y - x"), (3, 1)), uni(-3, 1))
        self.assertTrue(issubclass(Endless, RootfastError) and issubclass(NotUpright, RootfastError))


if __name__ == "__main__":
    unittest.main()

"""Promises [16.3] and [16.4]: critical points and their kinds."""

import itertools
import unittest
from fractions import Fraction

from helpers import Maker, around, box_of, iv, num, q, system_of, uni, value
from rootfast.bounds import bounds
from rootfast.boxes import box_has, widened
from rootfast.critical import critical_boxes, gradient, hessian, shape_over
from rootfast.intervals import sign_of
from rootfast.papers import is_single
from rootfast.polynomials import added, constant, derivative, multiplied, scaled
from rootfast.systems import is_system
from rootfast.texts import read_polynomial
from rootfast.trees import search, told

SQUARE = box_of((-1, 1), (-1, 1))
CUBE = box_of((-1, 1), (-1, 1), (-1, 1))

# A polynomial, a box and the word for it.
SHAPES = [
    ("x^2", ((-1, 1),), "least"), ("-x^2 + 7*x", ((-1, 1),), "greatest"), ("x^3", ((-1, 1),), "unclear"),
    ("x^3", ((1, 2),), "least"),
    ("x^3", ((-2, -1),), "greatest"), ("x", ((-1, 1),), "unclear"), ("0", ((-1, 1),), "unclear"), ("5", ((2, 2),), "unclear"),
    ("x^2 + y^2", ((-1, 1), (-1, 1)), "least"), ("-x^2 - y^2", ((-1, 1), (-1, 1)), "greatest"),
    ("x^2 - y^2", ((-1, 1),) * 2, "saddle"),
    ("-x^2 + y^2", ((-1, 1),) * 2, "saddle"), ("x*y", ((-1, 1),) * 2, "saddle"), ("x^2 + x*y", ((-1, 1),) * 2, "saddle"),
    ("x^2", ((-1, 1),) * 2, "unclear"), ("-y^2", ((-1, 1),) * 2, "unclear"), ("x^2 + y^3", ((-1, 1),) * 2, "unclear"),
    ("x^2 + y^3", ((-1, 1), (1, 2)), "least"), ("x^2 + y^3", ((-1, 1), (-2, -1)), "saddle"),
    ("x^4 + y^4", ((-1, 1),) * 2, "unclear"),
    ("x^2 + y^2 + z^2", ((-1, 1),) * 3, "least"), ("-x^2 - y^2 - z^2", ((-1, 1),) * 3, "greatest"),
    ("x^2 + y^2 - z^2", ((-1, 1),) * 3, "saddle"), ("-x^2 - y^2 + z^2", ((-1, 1),) * 3, "saddle"),
    ("-x^2 + y^2 + z^2", ((-1, 1),) * 3, "saddle"), ("x^2 - y^2 - z^2", ((-1, 1),) * 3, "saddle"),
    ("x^2 + y^2", ((-1, 1),) * 3, "unclear"), ("-x^2 - y^2 + z^3", ((-1, 1),) * 3, "unclear"),
    ("-x^2 - y^2 + z^3", ((-1, 1), (-1, 1), (1, 2)), "saddle"),
    ("-x^2 - y^2 + z^3", ((-1, 1), (-1, 1), (-2, -1)), "greatest"),
    # The second determinant has no sign, and the first one none, or one that is not that of the third one.
    ("y^2 + x*z", ((-1, 1),) * 3, "unclear"), ("x^2 + y*z", ((-1, 1),) * 3, "saddle"),
    ("x*y + z^2", ((-1, 1),) * 3, "saddle"),
    ("x^2 - y*z", ((-1, 1),) * 3, "saddle"), ("-x^2 + y*z", ((-1, 1),) * 3, "saddle"),
]


def determinant_of(rows):
    """The determinant of a matrix of polynomials in so many variables, along its first row."""
    if len(rows) == 1:
        return rows[0][0]
    total = ()
    for k, entry in enumerate(rows[0]):
        product = multiplied(entry, determinant_of([row[:k] + row[k + 1:] for row in rows[1:]]))
        total = added(total, scaled(product, num((-1) ** k)))
    return total


def slow_shape(p, box):
    n = len(box)
    rows = [[derivative(derivative(p, i), j) for j in range(n)] for i in range(n)]
    s = {k: sign_of(bounds(determinant_of([row[:k] for row in rows[:k]]), box)) for k in range(1, n + 1)}
    if all(s[k] == 1 for k in s):
        return "least"
    if all(s[k] == (-1 if k % 2 else 1) for k in s):
        return "greatest"
    odd = [s[k] for k in s if k % 2]
    if any(s[k] == -1 for k in s if k % 2 == 0) or (1 in odd and -1 in odd):
        return "saddle"
    return "unclear"


class Derivatives(unittest.TestCase):
    def test_known_ones(self):
        p = read_polynomial(2, "x^2*y - 3*y + x")
        self.assertEqual(gradient(2, p), system_of(2, "2*x*y + 1", "x^2 - 3"))
        self.assertEqual(hessian(2, p), (system_of(2, "2*y", "2*x"), system_of(2, "2*x", "0")))
        self.assertEqual(gradient(1, uni(1, 2, 3)), (uni(2, 6),))
        self.assertEqual(hessian(1, uni(1, 2, 3)), ((uni(6),),))
        self.assertEqual(gradient(3, constant(3, (4, 1))), ((), (), ()))
        self.assertEqual(hessian(3, ()), (((), (), ()),) * 3)

    def test_any_ones(self):
        maker = Maker(171)
        for _ in range(40):
            n = maker.random.randint(1, 3)
            p = maker.polynomial(n, 6, 4)
            found = gradient(n, p)
            self.assertTrue(is_system(n, found) and len(found) == n)
            self.assertEqual(found, tuple(derivative(p, k) for k in range(n)))
            rows = hessian(n, p)
            self.assertEqual([type(rows), len(rows)], [tuple, n])
            for i, j in itertools.product(range(n), repeat=2):
                self.assertEqual(rows[i][j], derivative(derivative(p, i), j))
                self.assertEqual(rows[i][j], rows[j][i])
            self.assertEqual([type(row) for row in rows], [tuple] * n)


class Shapes(unittest.TestCase):
    def test_known_ones(self):
        for text, ends, word in SHAPES:
            p = read_polynomial(len(ends), text)
            self.assertEqual(shape_over(p, box_of(*ends)), word, (text, ends))
            self.assertEqual(slow_shape(p, box_of(*ends)), word, (text, ends))

    def test_a_bound_that_touches_0(self):
        p = uni(0, 0, 0, 1)
        self.assertEqual(shape_over(p, (iv(0, 1),)), "unclear")
        self.assertEqual(shape_over(p, (iv(Fraction(1, 10 ** 9), 1),)), "least")
        self.assertEqual(shape_over(p, (iv(-1, 0),)), "unclear")
        p = read_polynomial(2, "x^2 + y^3")
        self.assertEqual(shape_over(p, box_of((0, 1), (0, 1))), "unclear")
        self.assertEqual(shape_over(p, box_of((0, 1), (0, 0))), "unclear")
        self.assertEqual(shape_over(p, box_of((0, 1), (Fraction(1, 9), Fraction(1, 9)))), "least")

    def test_against_the_words(self):
        maker = Maker(172)
        found = set()
        for _ in range(400):
            n = maker.random.randint(1, 3)
            # Squares and products of two variables, and a little of what bends them.
            sign = maker.random.choice((-5, 0, 5))
            terms = {tuple(2 * (i == k) for i in range(n)): num(sign) for k in range(n) if sign}
            for _ in range(maker.random.randint(1, 6)):
                e = [0] * n
                e[maker.random.randrange(n)] += 1
                e[maker.random.randrange(n)] += 1
                terms[tuple(e)] = num(maker.random.choice((-6, -2, -1, 1, 2, 6)))
                if maker.random.randint(0, 3) == 0:
                    e[maker.random.randrange(n)] += 1
                    terms[tuple(e)] = num(maker.random.randint(1, 9), 20)
            p = tuple((e, terms[e]) for e in sorted(terms))
            box = around([q(x) for x in maker.point(n)], Fraction(1, 4)) if maker.random.randint(0, 1) else around([0] * n, 1)
            word = shape_over(p, box)
            self.assertEqual(word, slow_shape(p, box), (p, box))
            found.add((n, word))
        words = ("least", "greatest", "saddle", "unclear")
        self.assertEqual(found, {(n, word) for n in (1, 2, 3) for word in words} - {(1, "saddle")})

    def test_what_the_words_tell(self):
        for text, ends, word in SHAPES:
            n = len(ends)
            p = read_polynomial(n, text)
            if word in ("least", "greatest") and all(value(slope, [0] * n) == 0 for slope in gradient(n, p)):
                for point in itertools.product((Fraction(-1, 2), 0, Fraction(1, 3)), repeat=n):
                    if any(point) and all(low <= 0 <= high for low, high in ends):
                        self.assertIs(value(p, point) > value(p, [0] * n), word == "least")


class CriticalBoxes(unittest.TestCase):
    def check(self, n, text, box, depth, words):
        p = read_polynomial(n, text)
        found = critical_boxes(n, p, box, depth)
        self.assertIs(type(found), list)
        tree = search(gradient(n, p), box, depth)
        self.assertEqual([wide for wide, word in found], [wide for wide, A in told(box, tree)])
        for (wide, word), (_, A) in zip(found, told(box, tree)):
            self.assertTrue(is_single(gradient(n, p), wide, A))
            self.assertEqual(word, slow_shape(p, wide))
        self.assertEqual([word for wide, word in found], words)
        return found

    def test_one_variable(self):
        box = (iv(-2, 2),)
        found = self.check(1, "x^3 - 3*x", box, 3, ["greatest", "least"])
        self.assertTrue(box_has(found[0][0], (num(-1),)) and box_has(found[1][0], (num(1),)))
        self.check(1, "x^3 - 3*x", box, 0, [])
        self.check(1, "x^2", box, 0, ["least"])
        self.check(1, "-x^2 + x", (iv(-2, 3),), 0, ["greatest"])
        self.check(1, "x + 1", box, 5, [])
        self.check(1, "0", box, 2, [])

    def test_inside_on_the_boundary_and_outside(self):
        found = self.check(2, "x^2 + y^2", SQUARE, 0, ["least"])
        self.assertEqual(found, [(widened(SQUARE), "least")])
        self.check(2, "x^2 + y^2", box_of((0, 1), (-1, 1)), 0, ["least"])
        self.check(2, "x^2 + y^2", box_of((0, 1), (0, 1)), 0, ["least"])
        # Outside of the searched box, but inside of the widened one.
        self.check(2, "x^2 - 100*x*y + y^2 + 49/100*x", box_of((0, 1), (Fraction(1, 100), Fraction(101, 100))), 4, ["saddle"])
        self.check(2, "x^2 + y^2", box_of((1, 2), (-1, 1)), 4, [])

    def test_unclear(self):
        self.check(3, "y^2 + x*z", CUBE, 0, ["unclear"])

    def test_saddles(self):
        found = self.check(2, "x^3 - 3*x + y^2", box_of((-2, 2), (-1, 1)), 4, ["saddle", "saddle", "least", "least"])
        self.assertEqual(len(found), 4)
        self.check(3, "x^2 - y^2 + z^2 - x", CUBE, 0, ["saddle"])

    def test_any_ones(self):
        maker = Maker(173)
        for _ in range(40):
            n = maker.random.randint(1, 3)
            p = maker.polynomial(n, 5, 3)
            box = around([q(x) for x in maker.point(n)], 2)
            depth = {1: 5, 2: 4, 3: 2}[n]
            tree = search(gradient(n, p), box, depth)
            expected = [(wide, slow_shape(p, wide)) for wide, A in told(box, tree)]
            self.assertEqual(critical_boxes(n, p, box, depth), expected)


if __name__ == "__main__":
    unittest.main()

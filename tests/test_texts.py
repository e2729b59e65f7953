"""Promises [3.1] to [3.4]: formulas, and the texts of polynomials and of systems."""

import itertools
import unittest
from fractions import Fraction

from helpers import Maker, num, uni
from rootfast.errors import BadText
from rootfast.polynomials import constant, is_polynomial, raised, variable
from rootfast.texts import read_polynomial, read_system, write_polynomial, write_system

X, Y, Z, U = (variable(4, k) for k in range(4))


class Formulas(unittest.TestCase):
    good = (
        ("0", ()), ("7", uni(7)), ("3/4", uni(Fraction(3, 4))), ("x", uni(0, 1)), ("-x^2 + 3", uni(3, 0, -1)),
        ("-x^2", uni(0, 0, -1)), ("(-x)^2", uni(0, 0, 1)), ("x^0", uni(1)), ("0^0", uni(1)), ("x^1", uni(0, 1)),
        ("x^12", uni(*[0] * 12, 1)), ("x*x^12", uni(*[0] * 13, 1)), ("(x + 1)^3", uni(1, 3, 3, 1)), ("x-x", ()),
        ("1-2-3", uni(-4)), ("1-(2-3)", uni(2)), ("2*3^2", uni(18)), ("-2^2", uni(-4)), ("-2*x*3", uni(0, -6)),
        ("-(x)", uni(0, -1)), ("((x))", uni(0, 1)), ("(x)^2*(x)^3", uni(0, 0, 0, 0, 0, 1)), ("1/2^2", uni(Fraction(1, 4))),
        ("((x^2)^3)^2", uni(*[0] * 12, 1)), ("x*0", ()), ("-x+x+1", uni(1)), ("(1-x)*(1+x)", uni(1, 0, -1)),
        ("2*(-3)", uni(-6)), ("10/7*x", uni(0, Fraction(10, 7))), ("-0", ()), ("-(-(-x))", uni(0, -1)),
    )

    def test_good_ones(self):
        for text, p in self.good:
            self.assertEqual(read_polynomial(1, text), p, text)

    def test_bad_ones(self):
        for text in (
            "", "2x", "x2", "x^-1", "2/4", "3/1", "07", "0/1", "x^13", "x^012", "x^02", "x^1/2", "x^2/3", "x^x", "x^(2)",
            "x^", "^2", "x^2^3", "x^99999999999", "+x", "--x", "x--x", "x+-x", "x*-x", "-+x", "x+", "x-", "x*", "*x", "-",
            "()", "(", ")", "(x", "x)", "(x))", "((x)", "x()", "(x)(x)", "2(x)", "x(2)", "xx", "x x", "1 2", "y", "u", "X",
            "a", "x**2", "x/2", "x/x", "3/", "/3", "1/2/3", "1/0", "3/x", "x=1", "x,x", "x.x", "1.5", "1e3", "[x]", "{x}",
            "x\n", "\nx", "x\t+ 1", "x\r", "x +\n1", "\u00b2", "x^\u00b2", "\u0661", "x\u00d71", "\u2212x", "x;", "0x1", "1_0",
            "x+ +x", "x^ ", "2 x", "(x) 2", "(-)", "-()", "x - ", "None",
        ):
            with self.assertRaises(BadText, msg=repr(text)):
                read_polynomial(1, text)

    def test_names(self):
        names = "xyzu"
        for n in range(1, 5):
            for k, name in enumerate(names):
                if k < n:
                    self.assertEqual(read_polynomial(n, name), variable(n, k))
                else:
                    with self.assertRaises(BadText):
                        read_polynomial(n, name)
            for text in ("xy", "xyzu", "t", "v"):
                with self.assertRaises(BadText):
                    read_polynomial(n, text)

    def test_four_variables(self):
        self.assertEqual(read_polynomial(4, "x*u^2-3*y*z"), (((0, 1, 1, 0), (-3, 1)), ((1, 0, 0, 2), (1, 1))))
        squares = read_polynomial(2, "(x - y)^2 - 1/2*x")
        self.assertEqual(squares, (((0, 2), (1, 1)), ((1, 0), (-1, 2)), ((1, 1), (-2, 1)), ((2, 0), (1, 1))))

    def test_exponents(self):
        for k in range(13):
            self.assertEqual(read_polynomial(1, f"(x+1)^{k}"), raised(1, uni(1, 1), k))
        for text in ("x^13", "2^13", "x^100", "x^" + "9" * 5000, "x^00", "x^001"):
            with self.assertRaises(BadText):
                read_polynomial(1, text)

    def test_brackets(self):
        self.assertEqual(read_polynomial(1, "(" * 30 + "x" + ")" * 30), uni(0, 1))
        self.assertEqual(read_polynomial(1, "-(" * 30 + "x" + ")" * 30), uni(0, 1))
        self.assertEqual(read_polynomial(1, "+".join(["(" * 30 + "x" + ")" * 30] * 5)), uni(0, 5))
        for deep in (31, 32, 100, 20000):
            for text in ("(" * deep + "x" + ")" * deep, "1+(" * deep + "x" + ")" * deep, "(" * deep):
                with self.assertRaises(BadText):
                    read_polynomial(1, text)

    def test_figures(self):
        long, longer = "1" * 60, "1" * 61
        self.assertEqual(read_polynomial(1, "-" + long + "*x"), (((1,), (-int(long), 1)),))
        self.assertEqual(read_polynomial(1, "1/" + long), uni(Fraction(1, int(long))))
        for text in (longer, "x-" + longer, "1/" + longer, "1" + "0" * 60 + "/3", "0*" + longer, "9" * 5000):
            with self.assertRaises(BadText):
                read_polynomial(1, text)

    def test_long_results_are_no_fault(self):
        self.assertEqual(read_polynomial(1, "(" + "9" * 60 + ")^12"), uni(int("9" * 60) ** 12))

    def test_a_bad_end_is_told_soon(self):
        with self.assertRaises(BadText):
            read_polynomial(4, "((((((x+y+z+u)^12)^12)^12)^12)^12)^12 +")


class Spaces(unittest.TestCase):
    parts = ["-", "x", "^", "2", "*", "(", "3/4", "-", "x", ")", "^", "11", "+", "12", "-", "(", "-", "x", ")"]

    def test_one_space_between_parts(self):
        plain = read_polynomial(1, "".join(self.parts))
        self.assertEqual(read_polynomial(1, " ".join(self.parts)), plain)
        for k in range(1, len(self.parts)):
            first, second = "".join(self.parts[:k]), "".join(self.parts[k:])
            self.assertEqual(read_polynomial(1, first + " " + second), plain)
            for gap in ("  ", "   ", "\t", "\n", " \t", "\u00a0", "\u2003"):
                with self.assertRaises(BadText):
                    read_polynomial(1, first + gap + second)

    def test_none_at_the_ends(self):
        for text in (" x", "x ", " x ", " ", "  ", " -x", "(x) ", "\u00a0x"):
            with self.assertRaises(BadText):
                read_polynomial(1, text)

    def test_none_within_a_number(self):
        for text in ("1 2", "3 /4", "3/ 4", "3 / 4", "1 1/2", "1/1 2", "x^1 2", "x^ 1 2"):
            with self.assertRaises(BadText):
                read_polynomial(1, text)


class Writing(unittest.TestCase):
    good = (
        ((), "0"), (uni(1), "1"), (uni(-1), "-1"), (uni(Fraction(-2, 3)), "-2/3"), (uni(0, 1), "x"), (uni(0, -1), "-x"),
        (uni(1, 1), "x + 1"), (uni(-1, -1), "-x - 1"), (uni(0, 0, 5), "5*x^2"), (uni(3, 0, -1), "-x^2 + 3"),
        (uni(Fraction(1, 2), Fraction(-3, 4), 1), "x^2 - 3/4*x + 1/2"), (uni(0, Fraction(1, 2)), "1/2*x"),
        (uni(*[0] * 24, -1), "-x^24"), (uni(1, 0, 1), "x^2 + 1"), (uni(-1, 0, -2), "-2*x^2 - 1"),
    )

    def test_one_variable(self):
        for p, text in self.good:
            self.assertEqual(write_polynomial(1, p), text)

    def test_more_variables(self):
        for n, text in (
            (2, "x^2 - 2*x*y - 1/2*x + y^2"), (2, "y"), (2, "-x*y + y^2"), (3, "x*z^2 + x + y^3 - z + 1"),
            (4, "x^2*y*z^3*u - 7/2*u^2 - 1"), (4, "u"), (2, "x^2*y - x*y^2"),
        ):
            self.assertEqual(write_polynomial(n, read_polynomial(n, text)), text)
        self.assertEqual(write_polynomial(3, (((0, 0, 2), (-1, 3)), ((1, 1, 1), (-1, 1)))), "-x*y*z - 1/3*z^2")

    def test_descending_order(self):
        p = tuple(((i, j), num(1)) for i, j in itertools.product(range(3), range(3)))
        expected = "x^2*y^2 + x^2*y + x^2 + x*y^2 + x*y + x + y^2 + y + 1"
        self.assertEqual(write_polynomial(2, p), expected)

    def test_reading_what_was_written(self):
        maker = Maker(11)
        for n in range(1, 5):
            for _ in range(30):
                p = maker.polynomial(n, 6, 12)
                again = read_polynomial(n, write_polynomial(n, p))
                self.assertEqual(again, p)
                self.assertIs(is_polynomial(n, again), True)


class Systems(unittest.TestCase):
    def test_writing(self):
        self.assertEqual(write_system(1, (uni(-2, 0, 1),)), "x^2 - 2\n")
        system = (read_polynomial(2, "x*y - 1"), (), constant(2, (-1, 2)))
        self.assertEqual(write_system(2, system), "x*y - 1\n0\n-1/2\n")

    def test_reading(self):
        self.assertEqual(read_system(1, "x^2 - 2\n"), (uni(-2, 0, 1),))
        self.assertEqual(read_system(1, "x+x\n(x)^2\n0\n"), (uni(0, 2), uni(0, 0, 1), ()))
        self.assertEqual(read_system(4, "x\ny\nz\nu\nx\n"), (X, Y, Z, U, X))
        self.assertIs(type(read_system(1, "x\n")), tuple)

    def test_bad_ones(self):
        for text in (
            "", "\n", "x", "x\nx", "\nx\n", "x\n\n", "x\n\nx\n", "x\n ", " \n", "x \n", " x\n", "x\r\n", "x\n\r\n", "x\x0bx\n",
            "y\n", "x\ny\n", "x+\n", "2x\n", "x^13\n", "x\u2028x\n", "(" * 31 + "x" + ")" * 31 + "\n", "1" * 61 + "\n",
        ):
            with self.assertRaises(BadText, msg=repr(text)):
                read_system(1, text)

    def test_both_ways(self):
        maker = Maker(12)
        for n in range(1, 5):
            system = tuple(maker.polynomial(n, 5, 12) for _ in range(5))
            self.assertEqual(read_system(n, write_system(n, system)), system)


if __name__ == "__main__":
    unittest.main()

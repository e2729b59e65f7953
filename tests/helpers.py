"""What several tests share: values of no form, small makers, and exact arithmetic of another kind."""

import itertools
import random
from fractions import Fraction

from rootfast.texts import read_polynomial


def nested(depth, make):
    value = make(None)
    for _ in range(depth - 1):
        value = make(value)
    return value


class Odd:
    """An object that answers no question about itself."""

    def __eq__(self, other):
        raise RuntimeError("not to be compared")

    __hash__ = None

    def __len__(self):
        raise RuntimeError("not to be measured")

    def __iter__(self):
        raise RuntimeError("not to be iterated")


def strange_values():
    """Values that are of no form of the document but perhaps that of the empty tuple."""
    return [
        None, True, False, 0, 1, -3, 1.5, float("nan"), 2j, "", "x", "1/2", "12", b"", b"ab", [], [1, 2],
        [(1, 1), (2, 1)], {}, {0: 1}, {1: 1, 2: 1}, set(), {1, 2}, frozenset([1, 2]), range(2), Fraction(1, 2), Odd(),
        object(), int, len, (None,), (None, None), (True, True), ("1", "2"), ((), ()), ([], []), ({}, {}),
        (Odd(), Odd()), ((Odd(), 1), (1, Odd())), nested(60, lambda v: (v,)), nested(60, lambda v: (v, v)[:1] * 2),
        nested(60, lambda v: [v]), nested(60, lambda v: {0: v}), iter([]), zip(), (1,), (1, 2, 3), (1, 1, 1, 1),
    ]


def q(x):
    """The fraction of a number."""
    return Fraction(x[0], x[1])


def num(x, b=1):
    """The number of a fraction or of two integers."""
    x = Fraction(x, b)
    return (x.numerator, x.denominator)


def iv(low, high):
    """The interval from low to high."""
    return (num(low), num(high))


def box_of(*ends):
    """The box whose intervals go from the first to the second of each pair."""
    return tuple(iv(low, high) for low, high in ends)


def around(point, size):
    """The box of the points that differ from a point, of fractions, by at most a size."""
    return box_of(*[(Fraction(x) - size, Fraction(x) + size) for x in point])


def system_of(n, *texts):
    """The system of some formulas."""
    return tuple(read_polynomial(n, text) for text in texts)


def uni(*coefficients):
    """The polynomial in one variable with coefficients, from the power 0 on."""
    return tuple(((k,), num(c)) for k, c in enumerate(coefficients) if c != 0)


def value(p, point):
    """The value of a polynomial at a list of fractions."""
    total = Fraction(0)
    for exponents, coefficient in p:
        term = q(coefficient)
        for x, e in zip(point, exponents):
            term *= Fraction(x) ** e
        total += term
    return total


def coefficients_of(p):
    """The list of fractions that are the coefficients of a polynomial in one variable."""
    found = [Fraction(0)] * (p[-1][0][0] + 1 if p else 0)
    for (e,), coefficient in p:
        found[e] = q(coefficient)
    return found


def product_of_all(factors):
    """The product of lists of fractions as polynomials in one variable."""
    result = [Fraction(1)]
    for factor in factors:
        longer = [Fraction(0)] * (len(result) + len(factor) - 1)
        for i, a in enumerate(result):
            for j, b in enumerate(factor):
                longer[i + j] += a * Fraction(b)
        result = longer
    return result


def from_factors(*factors):
    """The polynomial in one variable that is a product of lists of coefficients."""
    return uni(*product_of_all(factors))


class Maker:
    """Numbers and polynomials without a plan, but always the same ones."""

    def __init__(self, seed):
        self.random = random.Random(seed)

    def number(self, above=20, below=6):
        return num(self.random.randint(-above, above), self.random.randint(1, below))

    def figures(self, many):
        """A number other than 0 with so many figures above and below the line."""
        least = 10 ** (many - 1)
        while True:
            a, b = self.random.randrange(least, 10 * least), self.random.randrange(least, 10 * least)
            x = num(a * self.random.choice((1, -1)), b)
            if len(str(abs(x[0]))) == many and len(str(x[1])) == many:
                return x

    def polynomial(self, n, terms, most):
        table = {}
        for _ in range(terms):
            exponents = tuple(self.random.randint(0, most) for _ in range(n))
            table[exponents] = self.number()
        return tuple((e, table[e]) for e in sorted(table) if table[e][0] != 0)

    def dense(self, n, top, coefficient):
        """The polynomial with all exponents up to the top and coefficients made by a function."""
        return tuple((e, coefficient()) for e in itertools.product(range(top + 1), repeat=n))

    def point(self, n):
        return tuple(self.number() for _ in range(n))

    def interval(self):
        return tuple(sorted([self.number(), self.number()], key=q))

    def box(self, n):
        return tuple(self.interval() for _ in range(n))

    def matrix(self, rows, columns):
        return tuple(tuple(self.number(4, 3) for _ in range(columns)) for _ in range(rows))

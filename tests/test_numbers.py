"""Promises [1.1] and [1.2]: numbers and their texts."""

import unittest

from helpers import Maker, num, q, strange_values
from rootfast.errors import BadNumber, BadText
from rootfast.numbers import (
    compare, is_number, minus, number, over, plus, power, read_number, times, write_number,
)


class Making(unittest.TestCase):
    def test_lowest_terms(self):
        self.assertEqual(number(4, 6), (2, 3))
        self.assertEqual(number(12, 4), (3, 1))
        self.assertEqual(number(7, 5), (7, 5))

    def test_signs(self):
        self.assertEqual(number(4, -6), (-2, 3))
        self.assertEqual(number(-4, -6), (2, 3))
        self.assertEqual(number(-4, 6), (-2, 3))

    def test_zero(self):
        self.assertEqual(number(0, 5), (0, 1))
        self.assertEqual(number(0, -5), (0, 1))
        for a in (0, 1, -7):
            with self.assertRaises(BadNumber):
                number(a, 0)

    def test_long_integers(self):
        self.assertEqual(number(6 * 10 ** 400, 4 * 10 ** 400), (3, 2))


class Telling(unittest.TestCase):
    def test_numbers(self):
        for x in ((0, 1), (1, 1), (-1, 1), (2, 3), (-2, 3), (10 ** 90, 7)):
            self.assertIs(is_number(x), True, x)

    def test_pairs_that_are_none(self):
        for x in ((2, 4), (0, 2), (3, 0), (0, 0), (1, 0), (-1, 0), (1, -2), (0, -1), (-2, -3), (6, 3)):
            self.assertIs(is_number(x), False, x)

    def test_wrong_kinds(self):
        for x in ((True, 1), (1, True), (False, 1), (1.0, 1), (1, 2.0), ("1", 2), (1, None), [1, 2], (1,), (1, 2, 3), ()):
            self.assertIs(is_number(x), False, x)
        for x in strange_values():
            self.assertIs(is_number(x), False)


class Reckoning(unittest.TestCase):
    def test_against_fractions(self):
        maker = Maker(1)
        for _ in range(400):
            x, y = maker.number(), maker.number()
            self.assertEqual(plus(x, y), num(q(x) + q(y)))
            self.assertEqual(minus(x, y), num(q(x) - q(y)))
            self.assertEqual(times(x, y), num(q(x) * q(y)))
            self.assertEqual(compare(x, y), (q(x) > q(y)) - (q(x) < q(y)))
            if y != (0, 1):
                self.assertEqual(over(x, y), num(q(x) / q(y)))

    def test_cancelling(self):
        self.assertEqual(plus((1, 2), (-1, 2)), (0, 1))
        self.assertEqual(plus((1, 6), (1, 3)), (1, 2))
        self.assertEqual(minus((5, 7), (5, 7)), (0, 1))
        self.assertEqual(times((0, 1), (3, 5)), (0, 1))
        self.assertEqual(times((2, 3), (3, 2)), (1, 1))

    def test_over(self):
        self.assertEqual(over((1, 2), (-3, 4)), (-2, 3))
        self.assertEqual(over((0, 1), (-3, 4)), (0, 1))
        for x in ((0, 1), (1, 1), (-2, 3)):
            with self.assertRaises(BadNumber):
                over(x, (0, 1))

    def test_compare(self):
        self.assertEqual([compare((1, 2), (2, 3)), compare((2, 3), (2, 3)), compare((2, 3), (1, 2))], [-1, 0, 1])
        self.assertEqual([compare((-1, 2), (0, 1)), compare((-1, 2), (-2, 3))], [-1, 1])
        for x, y in (((1, 2), (2, 3)), ((1, 2), (1, 2)), ((2, 3), (1, 2))):
            self.assertIs(type(compare(x, y)), int)

    def test_power(self):
        self.assertEqual(power((2, 3), 0), (1, 1))
        self.assertEqual(power((0, 1), 0), (1, 1))
        self.assertEqual(power((0, 1), 3), (0, 1))
        self.assertEqual(power((-2, 3), 1), (-2, 3))
        for k in range(30):
            self.assertEqual(power((-2, 3), k), num(q((-2, 3)) ** k))


class Texts(unittest.TestCase):
    pairs = (
        ("0", (0, 1)), ("7", (7, 1)), ("-7", (-7, 1)), ("1/2", (1, 2)), ("-1/2", (-1, 2)), ("10/7", (10, 7)),
        ("100", (100, 1)), ("-100/3", (-100, 3)),
    )

    def test_both_ways(self):
        for text, x in self.pairs:
            self.assertEqual(read_number(text), x)
            self.assertEqual(write_number(x), text)

    def test_no_texts(self):
        for text in (
            "", "2/4", "3/1", "-0", "07", "-07", "00", "0/1", "0/5", "-0/3", "1/0", "0/0", "1/-2", "--1", "+1", "-",
            "/", "1/", "/2", "-/2", "1/2/3", "1/02", "01/2", " 1", "1 ", "1 /2", "1/ 2", "- 1", "1\n", "\n1", "1_0",
            "1.5", "1e3", "0x1", "x", "1/x", "\u0661", "\u00b2", "1/\u0662", "\uff11", "1/2 ", "6/4", "-6/4", "4/2",
            "None", "True", "1,2",
        ):
            with self.assertRaises(BadText, msg=repr(text)):
                read_number(text)

    def test_sixty_figures(self):
        long, longer = "1" * 60, "1" * 61
        self.assertEqual(read_number(long), (int(long), 1))
        self.assertEqual(read_number("-" + long), (-int(long), 1))
        self.assertEqual(read_number("1/" + long), (1, int(long)))
        below = "1" + "0" * 58 + "1"
        self.assertEqual(read_number("-" + "2" * 59 + "1/" + below), (-int("2" * 59 + "1"), int(below)))
        for text in (longer, "-" + longer, "1/" + longer, longer + "/2", "9" * 5000, "1/" + "9" * 5000, "0" * 70):
            with self.assertRaises(BadText):
                read_number(text)

    def test_long_numbers_are_written(self):
        self.assertEqual(write_number((10 ** 61, 3)), "1" + "0" * 61 + "/3")
        self.assertEqual(write_number((-1, 10 ** 3998)), "-1/1" + "0" * 3998)


if __name__ == "__main__":
    unittest.main()

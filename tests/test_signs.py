"""Promises [17.1] to [17.3]: marks, samples, signs and conditions on the line."""

import unittest
from fractions import Fraction

from helpers import Maker, from_factors, num, q, uni, value
from rootfast.numbers import is_number
from rootfast.roots import compare_root, compare_roots, is_root, near, root_of, roots_of
from rootfast.signs import cells_that_meet, marks, meets, samples, sign_of_sample, sign_table, solution

TWO = uni(-2, 0, 1)
ONE = uni(-1, 1)
WORDS = ("<", "<=", "=", ">=", ">", "<>")
FITTING = {"<": (-1,), "<=": (-1, 0), "=": (0,), ">=": (0, 1), ">": (1,), "<>": (-1, 1)}


def made_lists(maker, many):
    """Lists of polynomials with rational roots, known ones with their multiplicities, and square roots of 2 and 3."""
    for _ in range(many):
        rows = []
        for _ in range(maker.random.randint(0, 4)):
            factors = [[Fraction(maker.random.choice((-2, -1, 1, 3)), maker.random.randint(1, 4))]]
            for _ in range(maker.random.randint(0, 3)):
                a = maker.random.choice((-1, 0, 1, 2, Fraction(1, 2), Fraction(3, 2), Fraction(-7, 5)))
                factors += [[-a, 1]] * maker.random.randint(1, 2)
            factors += [[-maker.random.choice((2, 3)), 0, 1]] * maker.random.randint(0, 1)
            rows.append(from_factors(*factors))
        yield rows


def tight(r):
    """A point that lies near enough to a root to tell it from other ones."""
    low, high = near(r, 50)
    return (q(low) + q(high)) / 2


def exact_sign(p, x):
    return (value(p, [x]) > 0) - (value(p, [x]) < 0)


class Marks(unittest.TestCase):
    def test_known_ones(self):
        self.assertEqual(marks([]), [])
        self.assertEqual(marks([uni(3), uni(-1, 0, -1)]), [])
        found = marks([TWO, ONE])
        self.assertEqual(len(found), 3)
        self.assertEqual(compare_roots(found[0], roots_of(TWO)[0]), 0)
        self.assertEqual(compare_root(found[1], (1, 1)), 0)
        self.assertEqual(compare_roots(found[2], roots_of(TWO)[1]), 0)

    def test_each_number_once(self):
        for rows in ([TWO, TWO], [TWO, uni(2, 0, -1), uni(-4, 0, 0, 0, 1)], [from_factors([-2, 0, 1], [-2, 0, 1])]):
            self.assertEqual(len(marks(rows)), 2)
        rows = [from_factors([-1, 1], [-2, 1]), from_factors([-2, 1], [-3, 1], [0, 1]), from_factors([1, 1], [-1, 1], [-1, 1])]
        self.assertEqual([tight(r) for r in marks(rows)], [-1, 0, 1, 2, 3])
        self.assertEqual([tight(r) for r in marks(rows[::-1])], [-1, 0, 1, 2, 3])

    def test_any_lists(self):
        for rows in made_lists(Maker(181), 120):
            found = marks(rows)
            self.assertIs(type(found), list)
            self.assertTrue(all(is_root(r) for r in found))
            for r, s in zip(found, found[1:]):
                self.assertEqual(compare_roots(r, s), -1)
            every = [r for p in rows for r in roots_of(p)]
            for r in every:
                self.assertEqual([compare_roots(r, s) for s in found].count(0), 1)
            for s in found:
                self.assertIn(0, [compare_roots(r, s) for r in every])


class Samples(unittest.TestCase):
    def check(self, rows):
        found = samples(rows)
        points = marks(rows)
        self.assertIs(type(found), list)
        self.assertEqual(len(found), 2 * len(points) + 1)
        for k, (word, place) in enumerate(found):
            self.assertIs(type(found[k]), tuple)
            if k % 2:
                self.assertEqual(word, "root")
                self.assertTrue(is_root(place))
                self.assertEqual(compare_roots(place, points[k // 2]), 0)
            else:
                self.assertEqual(word, "number")
                self.assertTrue(is_number(place))
                if k > 0:
                    self.assertEqual(compare_root(points[k // 2 - 1], place), -1)
                if k < len(found) - 1:
                    self.assertEqual(compare_root(points[k // 2], place), 1)
        return found

    def test_known_ones(self):
        for rows in ([], [uni(5)], [uni(1, 0, 1)], [uni(-3), uni(2, 2, 1)]):
            (word, place), = self.check(rows)
            self.assertEqual([word, is_number(place)], ["number", True])
        self.check([TWO])
        self.check([uni(0, 1)])
        self.check([TWO, TWO, ONE])

    def test_any_lists(self):
        for rows in made_lists(Maker(182), 120):
            self.check(rows)

    def test_marks_that_are_near(self):
        tiny = Fraction(1, 10 ** 20)
        self.check([uni(-1, 1), uni(-1 - tiny, 1), uni(-1 + tiny, 1)])
        self.check([TWO, uni(-2 - tiny, 0, 1)])
        self.check([TWO, uni(Fraction(-1414213562373095048801688724209698, 10 ** 33), 1)])
        self.check([from_factors([-1, 3], [-1, 3], [-Fraction(10 ** 9 + 1, 3 * 10 ** 9), 1])])


class Signs(unittest.TestCase):
    def test_samples(self):
        low, high = roots_of(TWO)
        for p, sample, sign in (
            (ONE, ("number", (2, 1)), 1), (ONE, ("number", (1, 1)), 0), (ONE, ("number", (-1, 2)), -1),
            ((), ("number", (7, 3)), 0),
            ((), ("root", low), 0), (TWO, ("root", low), 0), (ONE, ("root", low), -1), (ONE, ("root", high), 1),
            (uni(-4), ("root", high), -1),
            (uni(Fraction(-3, 2), 1), ("root", high), -1), (uni(-4, 0, 0, 0, 1), ("root", high), 0),
            (uni(5), ("number", (0, 1)), 1),
            (uni(1, -2, 1), ("root", root_of((1, 1))), 0), (uni(1, -2, 1), ("root", root_of((2, 1))), 1),
        ):
            self.assertEqual(sign_of_sample(p, sample), sign, (p, sample))

    def test_tables(self):
        self.assertEqual(sign_table([TWO]), [(1,), (0,), (-1,), (0,), (1,)])
        self.assertEqual(sign_table([]), [()])
        self.assertEqual(sign_table([uni(3), uni(-2)]), [(1, -1)])
        self.assertEqual(sign_table([ONE, uni(1, -2, 1)]), [(-1, 1), (0, 0), (1, 1)])
        self.assertEqual(sign_table([TWO, ONE, TWO]), [
            (1, -1, 1), (0, -1, 0), (-1, -1, -1), (-1, 0, -1), (-1, 1, -1), (0, 1, 0), (1, 1, 1)])
        self.assertEqual(sign_table([uni(0, 0, 0, -1)]), [(1,), (0,), (-1,)])

    def test_any_tables(self):
        for rows in made_lists(Maker(183), 120):
            table = sign_table(rows)
            points = marks(rows)
            self.assertEqual([type(table), {type(row) for row in table}], [list, {tuple}])
            self.assertEqual(len(table), 2 * len(points) + 1)
            places = [tight(r) for r in points]
            for k, row in enumerate(table):
                if k % 2 == 0:
                    low = places[k // 2 - 1] if k else places[0] - 2 if places else 0
                    high = places[k // 2] if k + 1 < len(table) else low + 2
                    self.assertEqual(row, tuple(exact_sign(p, (low + high) / 2) for p in rows))
                else:
                    roots = [[compare_roots(r, points[k // 2]) for r in roots_of(p)] for p in rows]
                    for sign, here, p in zip(row, roots, rows):
                        self.assertEqual(sign == 0, 0 in here)
                        if sign:
                            self.assertEqual(sign, exact_sign(p, places[k // 2]))
            self.assertEqual(table, [tuple(sign_of_sample(p, sample) for p in rows) for sample in samples(rows)])


class Conditions(unittest.TestCase):
    def test_words(self):
        for word in WORDS:
            for sign, x in ((-1, 0), (0, 1), (1, 2)):
                self.assertIs(meets([(ONE, word)], ("number", num(x))), sign in FITTING[word], (word, sign))
                self.assertIs(meets([(ONE, word)], ("root", root_of(num(x)))), sign in FITTING[word])
            self.assertIs(meets([((), word)], ("number", num(5))), 0 in FITTING[word])
            self.assertIs(meets([(uni(-1), word)], ("number", num(5))), -1 in FITTING[word])

    def test_all_must_be_met(self):
        sample = ("number", num(3, 2))
        self.assertIs(meets([], sample), True)
        self.assertIs(meets([(TWO, ">"), (ONE, ">")], sample), True)
        self.assertIs(meets([(TWO, ">"), (ONE, "<")], sample), False)
        self.assertIs(meets([(TWO, "<"), (ONE, ">")], sample), False)
        self.assertIs(meets([(TWO, "="), (ONE, ">")], ("root", roots_of(TWO)[1])), True)
        self.assertIs(meets([(TWO, "="), (ONE, ">")], ("root", roots_of(TWO)[0])), False)

    def test_cells(self):
        for conditions, expected in (
            ([(TWO, "<"), (ONE, ">=")], [3, 4]), ([], [0]), ([((), "=")], [0]), ([((), "<")], []), ([(uni(2), ">")], [0]),
            ([(uni(2), "<")], []), ([(TWO, "<")], [2]), ([(TWO, "<=")], [1, 2, 3]), ([(TWO, "=")], [1, 3]),
            ([(TWO, ">=")], [0, 1, 3, 4]),
            ([(TWO, ">")], [0, 4]), ([(TWO, "<>")], [0, 2, 4]), ([(TWO, "<"), (TWO, ">")], []),
            ([(TWO, "<="), (TWO, ">=")], [1, 3]),
            ([(TWO, "<"), ((), ">=")], [2]), ([((), "<>"), (TWO, "<")], []), ([(uni(1, -2, 1), "<=")], [1]),
            ([(uni(1, 0, 1), ">")], [0]), ([(ONE, "<="), (uni(1, -1), "<=")], [1]),
            ([(ONE, "<>"), (TWO, "<>")], [0, 2, 4, 6]),
        ):
            found = cells_that_meet(conditions)
            self.assertEqual(found, expected, conditions)
            self.assertIs(type(found), list)

    def test_solutions(self):
        for conditions in ([((), "<")], [(uni(1, 0, 1), "<=")], [(TWO, "="), (ONE, "=")], [(TWO, "<"), (uni(-2, 1), ">")]):
            self.assertIsNone(solution(conditions))
            self.assertEqual(cells_that_meet(conditions), [])
        word, place = solution([(uni(1, -2, 1), "<=")])
        self.assertEqual([word, compare_root(place, (1, 1))], ["root", 0])
        word, place = solution([(TWO, "="), (ONE, ">=")])
        self.assertEqual([word, compare_roots(place, roots_of(TWO)[1])], ["root", 0])
        word, place = solution([])
        self.assertEqual([word, is_number(place)], ["number", True])

    def test_any_lists(self):
        maker = Maker(184)
        ends = set()
        for rows in made_lists(maker, 150):
            rows = [p if maker.random.randint(0, 6) else () for p in rows]
            conditions = [(p, maker.random.choice(WORDS)) for p in rows]
            kept = [p for p in rows if p]
            here = samples(kept)
            expected = [
                k for k, sample in enumerate(here)
                if all(sign_of_sample(p, sample) in FITTING[word] for p, word in conditions)
            ]
            found = cells_that_meet(conditions)
            self.assertEqual(found, expected)
            self.assertEqual(solution(conditions), here[found[0]] if found else None)
            ends.add((not found, len(found) == len(here), sum(found[:1]) % 2))
            for sample in here + [("number", maker.number())]:
                told = [sign_of_sample(p, sample) in FITTING[word] for p, word in conditions]
                self.assertIs(meets(conditions, sample), all(told))
            # Each number meets the conditions exactly if its cell does.
            points = marks(kept)
            for a in range(-12, 13):
                x = num(a, 4)
                order = [compare_root(r, x) for r in points]
                cell = 2 * order.count(-1) + order.count(0)
                self.assertIs(meets(conditions, ("number", x)), cell in found)
        self.assertGreater(len(ends), 3)


if __name__ == "__main__":
    unittest.main()

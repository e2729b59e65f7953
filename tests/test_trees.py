"""Promises [8.1] to [8.5]: trees of halvings."""

import itertools
import unittest
from fractions import Fraction

from helpers import Maker, around, box_of, nested, num, q, strange_values, system_of, uni
from rootfast.boxes import box_has, box_inside, box_meeting, box_widths, box_within, halves, is_box, longest, widened
from rootfast.papers import free_index, is_free, is_single, krawczyk, narrowed, single_paper
from rootfast.real import isolated
from rootfast.trees import (
    check_tree, different, rest, search, told, tree_counts, tree_depth, zeros_within,
)

TWO = (uni(-2, 0, 1),)
CIRCLE = system_of(2, "x^2 + y^2 - 2", "x - y")
REST = ("rest",)
THIRD = (((1, 3),),)
BOX = box_of((0, 2))
TREE = ("halve", 0, ("free", 0), ("single", THIRD))
HALF = Fraction(1, 2)
TINY = Fraction(1, 2 ** 20)


def leaves(box, tree):
    """The list of the pairs of boxes and leaves, from left to right."""
    if tree[0] != "halve":
        return [(box, tree)]
    first, second = halves(box, tree[1])
    return leaves(first, tree[2]) + leaves(second, tree[3])


def slow_search(system, box, depth):
    """Word by word as the document tells it."""
    for k in range(len(system)):
        if is_free(system, box, k):
            return ("free", k)
    A = single_paper(system, widened(box))
    if A is not None:
        return ("single", A)
    if depth == 0:
        return REST
    k = longest(box)
    first, second = halves(box, k)
    return ("halve", k, slow_search(system, first, depth - 1), slow_search(system, second, depth - 1))


def chain_of(depth, leaf=REST, k=0):
    """A tree in which so many halvings lead to the last leaf."""
    return nested(depth, lambda v: ("halve", k, REST, v or leaf)) if depth else leaf


def apart(test, boxes):
    for first, second in itertools.combinations(boxes, 2):
        test.assertIsNone(box_meeting(first, second))


class Checking(unittest.TestCase):
    def check(self, value, expected, system=TWO, box=BOX):
        self.assertIs(check_tree(system, box, value), expected, value)

    def test_right_ones(self):
        self.check(TREE, True)
        self.check(REST, True)
        self.check(("halve", 0, REST, REST), True)
        self.check(("free", 0), True, box=box_of((2, 3)))
        self.check(("free", 1), True, CIRCLE, box_of((1, 2), (-HALF, HALF)))
        self.check(("halve", 1, ("halve", 0, REST, ("free", 1)), REST), True, CIRCLE, box_of((0, 4), (0, 2)))
        self.check(("single", (((1, 10 ** 3),),)), True, box=box_of((Fraction(5, 4), Fraction(7, 4))))

    def test_single_is_for_the_widened_box(self):
        box = box_of((Fraction(5, 4), Fraction(7, 4)))
        self.assertEqual(widened(box), box_of((1, 2)))
        A = single_paper(TWO, widened(box))
        self.check(("single", A), True, box=box)
        # The zero lies outside of the box, but inside of the widened one.
        beside = box_of((Fraction(6, 5), Fraction(7, 5)))
        self.check(("single", single_paper(TWO, widened(beside))), True, box=beside)
        wide = box_of((1, Fraction(5, 2)))
        A = single_paper(TWO, wide)
        self.assertIs(is_single(TWO, wide, A), True)
        self.check(("single", A), False, box=wide)

    def test_wrong_leaves(self):
        self.check(("free", 0), False)
        self.check(("free", 0), False, CIRCLE, box_of((1, 2), (-HALF, HALF)))
        self.check(("single", THIRD), False)
        self.check(("single", (((0, 1),),)), False, box=box_of((Fraction(5, 4), Fraction(7, 4))))
        self.check(("halve", 0, ("single", THIRD), ("free", 0)), False)
        self.check(("halve", 0, REST, ("free", 0)), False)
        self.check(("free", 0), False, system_of(1, "x"), box_of((0, 1)))

    def test_indexes(self):
        box = box_of((2, 3))
        for k in (1, -1, 2, 10 ** 30, True, False, None, "0", (0,), 0.0, num(0)):
            self.check(("free", k), False, box=box)
            self.check(("halve", k, REST, REST), False)
        self.check(("halve", 1, REST, REST), True, CIRCLE, box_of((0, 1), (0, 1)))
        for k in (2, -1, True, False):
            self.check(("halve", k, REST, REST), False, CIRCLE, box_of((0, 1), (0, 1)))

    def test_wrong_forms(self):
        for value in (
            (), "rest", ["rest"], ("rest", ()), ("rest", 0), ("free",), ("free", 0, 0), ("single",), ("single", THIRD, THIRD),
            ("single", (1, 3)), ("single", [((1, 3),)]), ("single", ([(1, 3)],)), ("single", None), ("halve",), ("halve", 0),
            ("halve", 0, REST), ("halve", 0, REST, REST, REST), ["halve", 0, REST, REST], ("halve", 0, ["rest"], REST),
            ("halve", 0, REST, None), ("halve", 0, (REST, REST)), ("halve", REST, REST), ("none",), ("one",), ("open",), ("Rest",),
            (b"rest",), (True,), (None,), (("rest",),), ("free", 0, REST, REST), ("rest", 0, REST, REST),
        ):
            self.check(value, False)
            self.check(("halve", 0, REST, value), False)
            self.check(("halve", 0, value, REST), False)
        for value in strange_values():
            for wrong in (value, (value,), ("free", value), ("single", value), ("halve", 0, value, REST), ("halve", 0, REST, value)):
                self.check(wrong, False)
            if type(value) is not int:
                self.check(("halve", value, REST, REST), False)

    def test_depths(self):
        self.check(chain_of(40), True)
        self.check(chain_of(41), False)
        self.check(nested(40, lambda v: ("halve", 0, v or REST, REST)), True)
        self.check(nested(41, lambda v: ("halve", 0, v or REST, REST)), False)
        self.check(chain_of(199), False)
        for make in (lambda v: ("halve", 0, v, REST), lambda v: (v,), lambda v: [v], lambda v: ("single", v)):
            self.check(nested(200, make), False)
        self.check(chain_of(40, ("free", 0)), True)
        self.check(chain_of(40, ("free", 1)), False)
        alternating = chain_of(20, chain_of(20, k=1))
        self.check(alternating, True, CIRCLE, box_of((0, 1), (0, 1)))


class Searching(unittest.TestCase):
    def check(self, system, box, depth):
        tree = search(system, box, depth)
        self.assertEqual(tree, slow_search(system, box, depth))
        self.assertIs(check_tree(system, box, tree), True)
        self.assertLessEqual(tree_depth(tree), depth)
        pairs, left = told(box, tree), rest(box, tree)
        self.assertEqual((type(pairs), type(left)), (list, list))
        self.assertEqual(pairs, [(widened(part), leaf[1]) for part, leaf in leaves(box, tree) if leaf[0] == "single"])
        self.assertEqual(left, [part for part, leaf in leaves(box, tree) if leaf == REST])
        for wide, A in pairs:
            self.assertIs(is_single(system, wide, A), True)
        return tree

    def test_some(self):
        self.assertEqual(self.check(TWO, BOX, 1), TREE)
        self.assertEqual(self.check(TWO, BOX, 0), REST)
        self.assertEqual(self.check(TWO, box_of((2, 3)), 0), ("free", 0))
        self.assertEqual(self.check(TWO, box_of((Fraction(5, 4), Fraction(7, 4))), 0), ("single", THIRD))
        self.assertEqual(self.check(CIRCLE, box_of((5, 6), (0, 1)), 3), ("free", 0))

    def test_least_index(self):
        system = system_of(2, "x", "x + 1")
        self.assertEqual(search(system, box_of((0, 1), (0, 1)), 3), ("free", 1))
        self.assertEqual(search(system, box_of((1, 2), (0, 1)), 3), ("free", 0))

    def test_the_longest_interval_is_halved(self):
        double = system_of(2, "x^2", "y^2")
        tree = self.check(double, box_of((-1, 1), (-3, 3)), 3)
        self.assertEqual(tree[1], 1)
        self.assertEqual(self.check(double, box_of((-1, 1), (-1, 1)), 1)[1], 0)
        self.assertEqual(self.check(double, box_of((0, 0), (0, 0)), 1), ("halve", 0, REST, REST))

    def test_multiple_zeros_stay_in_the_rest(self):
        tree = self.check(system_of(1, "x^2"), box_of((-1, 1)), 6)
        self.assertEqual(tree_counts(tree)[1], 0)
        self.assertEqual(rest(box_of((-1, 1)), tree), [box_of((Fraction(-1, 32), 0)), box_of((0, Fraction(1, 32)))])

    def test_deep(self):
        tree = self.check(system_of(1, "x^2"), box_of((0, 1)), 40)
        self.assertEqual([tree_depth(tree), len(rest(box_of((0, 1)), tree))], [40, 1])

    def test_many(self):
        maker = Maker(70)
        for n, depth in ((1, 6), (2, 4), (3, 3), (4, 1)):
            for _ in range(4):
                system = tuple(maker.polynomial(n, 4, 2) for _ in range(n))
                self.check(system, around([0] * n, 3), depth)
                self.check(system, maker.box(n), depth)

    def test_every_zero_is_found(self):
        grid = system_of(2, "x^2 - 1", "y^2 - 4")
        box = around([0, 0], 3)
        tree = self.check(grid, box, 5)
        for x, y in itertools.product((-1, 1), (-2, 2)):
            point = (num(x), num(y))
            places = [wide for wide, A in told(box, tree)] + rest(box, tree)
            self.assertTrue(any(box_has(place, point) for place in places))


class Different(unittest.TestCase):
    def check(self, system, pairs, many):
        found = different(system, pairs)
        self.assertIs(type(found), list)
        self.assertEqual(len(found), many)
        apart(self, found)
        for box in found:
            # Each box lies in a given one, and has what that one's Krawczyk's box, made narrower, has.
            homes = [(wide, A) for wide, A in pairs if box_within(box, wide)]
            self.assertTrue(homes)
            self.assertIsNotNone(box_meeting(box, narrowed(system, *homes[0], 60)))
        for wide, A in pairs:
            zero = narrowed(system, wide, A, 60)
            self.assertEqual(len([box for box in found if box_meeting(box, zero) is not None]), 1)
        return found

    def test_none(self):
        self.assertEqual(different(TWO, []), [])

    def test_same_zero(self):
        boxes = [box_of((1, 2)), box_of((Fraction(5, 4), Fraction(9, 4))), box_of((Fraction(7, 5), Fraction(3, 2)))]
        pairs = [(box, single_paper(TWO, box)) for box in boxes]
        self.check(TWO, pairs, 1)
        self.check(TWO, pairs + pairs[:1], 1)
        self.check(TWO, pairs + [(box_of((-2, -1)), (((-1, 3),),))], 2)

    def test_near_zeros(self):
        for gap in (Fraction(1, 10 ** 6), Fraction(1, 10 ** 12), Fraction(1, 2 ** 60)):
            pair = (uni(-gap * gap, 0, 1),)
            boxes = [box_of((gap / 5, 2 * gap)), box_of((-2 * gap, -gap / 5))]
            self.check(pair, [(box, single_paper(pair, box)) for box in boxes], 2)

    def test_one_zero_at_the_ends_of_both_boxes(self):
        plain = (uni(Fraction(-1, 3), 1),)
        for gap in (Fraction(1, 2 ** 10), Fraction(1, 2 ** 40)):
            boxes = [box_of((0, Fraction(1, 3) + gap)), box_of((Fraction(1, 3) - gap, 1))]
            self.check(plain, [(box, (((1, 1),),)) for box in boxes], 1)

    def test_told_boxes_of_a_search(self):
        for system, box, depth, many in (
            (system_of(2, "x^2 - 1", "y^2 - 4"), around([0, 0], 3), 8, 4),
            (system_of(1, "x^3 - x"), box_of((-2, 2)), 8, 3),
            (CIRCLE, box_of((Fraction(-7, 4), 2), (Fraction(-9, 5), Fraction(8, 5))), 8, 2),
        ):
            tree = search(system, box, depth)
            self.assertEqual(rest(box, tree), [])
            self.check(system, told(box, tree), many)

    def test_several_told_boxes_with_one_zero(self):
        system = system_of(2, "x", "y")
        box = around([0, 0], 1)
        parts = [quarter for half in halves(box, 0) for quarter in halves(half, 1)]
        pairs = [(widened(part), single_paper(system, widened(part))) for part in parts]
        self.assertNotIn(None, [A for wide, A in pairs])
        self.check(system, pairs, 1)


class ZerosWithin(unittest.TestCase):
    def check(self, system, box, depth, inner_many=None, edge_many=None):
        found = zeros_within(system, box, depth)
        self.assertEqual((type(found), len(found)), (tuple, 3))
        self.assertEqual([type(x) for x in found], [list] * 3)
        inner, edge, left = found
        tree = search(system, box, depth)
        pairs = told(box, tree)
        self.assertEqual(left, rest(box, tree))
        apart(self, inner + edge)
        zeros = [narrowed(system, wide, A, 80) for wide, A in pairs]
        for one in inner + edge:
            self.assertIs(is_box(len(box), one), True)
            self.assertTrue(any(box_meeting(one, zero) is not None for zero in zeros))
        for one in inner:
            self.assertIs(box_within(one, box), True)
        for one in edge:
            self.assertIsNotNone(box_meeting(one, box))
            self.assertIs(box_within(one, box), False)
            self.assertTrue(all(q(width) <= TINY for width in box_widths(one)))
        for zero in zeros:
            if box_within(zero, box):
                self.assertEqual(len([one for one in inner + edge if box_meeting(one, zero) is not None]), 1)
        if inner_many is not None:
            self.assertEqual((len(inner), len(edge)), (inner_many, edge_many))
        return found

    def test_some(self):
        self.check(TWO, box_of((0, 2)), 3, 1, 0)
        self.check(TWO, box_of((-2, 2)), 3, 2, 0)
        self.check(TWO, box_of((2, 3)), 3, 0, 0)
        self.check(CIRCLE, around([0, 0], 2), 6, 2, 0)

    def test_rest(self):
        self.assertEqual(zeros_within(TWO, BOX, 0), ([], [], [BOX]))
        inner, edge, left = self.check(system_of(1, "x^2"), box_of((-1, 1)), 3, 0, 0)
        self.assertEqual(left, [box_of((Fraction(-1, 4), 0)), box_of((0, Fraction(1, 4)))])

    def test_zeros_outside(self):
        # No part is free, and the widened box has the zero, but the searched box has not.
        turned = system_of(2, "x + y - 2", "x - y")
        for end in (Fraction(9, 10), 1 - TINY, 1 - Fraction(1, 10 ** 9)):
            box = box_of((0, end), (HALF, Fraction(3, 2)))
            self.assertEqual(len(told(box, search(turned, box, 0))), 1)
            inner, edge, left = self.check(turned, box, 0)
            if end < 1 - TINY:
                self.assertEqual((inner, edge), ([], []))
        self.check(TWO, box_of((0, Fraction(7, 5))), 4, 0, 0)
        self.check(TWO, box_of((Fraction(3, 2), 2)), 1, 0, 0)

    def test_zeros_on_the_boundary(self):
        for box in (box_of((0, 1)), box_of((1, 2))):
            inner, edge, left = self.check(system_of(1, "x^2 - 1"), box, 4)
            self.assertEqual((len(inner) + len(edge), left), (1, []))
        for low, high in itertools.product(((0, 1), (1, 2)), repeat=2):
            inner, edge, left = self.check(CIRCLE, box_of(low, high), 6)
            self.assertEqual((len(inner) + len(edge), left), (1, []))

    def test_zeros_very_near_to_the_boundary(self):
        for gap in (Fraction(1, 10 ** 5), Fraction(1, 10 ** 12)):
            for end in (1 - gap, 1 + gap):
                inner, edge, left = self.check(system_of(1, "x^2 - 1"), box_of((0, end)), 4)
                if end > 1:
                    self.assertEqual(len(inner) + len(edge), 1)
                elif gap > TINY:
                    self.assertEqual(len(inner) + len(edge), 0)
                self.assertEqual(left, [])

    def test_many(self):
        maker = Maker(71)
        for n, depth in ((1, 6), (2, 4), (3, 3)):
            for _ in range(4):
                system = tuple(maker.polynomial(n, 4, 2) for _ in range(n))
                self.check(system, around([0] * n, 3), depth)

    def test_one_variable_against_isolated_roots(self):
        maker = Maker(72)
        for _ in range(10):
            p = maker.polynomial(1, 4, 3)
            if p:
                inner, edge, left = self.check((p,), around([0], 50), 12)
                if not left and not edge:
                    self.assertEqual(len(inner), len(isolated(p)))


class Counting(unittest.TestCase):
    def check(self, tree, counts, depth):
        found = tree_counts(tree)
        self.assertIs(type(found), tuple)
        self.assertEqual(found, counts)
        self.assertEqual(tree_depth(tree), depth)
        self.assertIs(type(tree_depth(tree)), int)
        free, single, left, halved = found
        self.assertEqual(free + single + left, halved + 1)

    def test_some(self):
        self.check(REST, (0, 0, 1, 0), 0)
        self.check(("free", 0), (1, 0, 0, 0), 0)
        self.check(("single", THIRD), (0, 1, 0, 0), 0)
        self.check(TREE, (1, 1, 0, 1), 1)
        self.check(("halve", 0, TREE, ("halve", 0, REST, TREE)), (2, 2, 1, 4), 3)

    def test_wrong_trees(self):
        self.check(("halve", 10 ** 50, ("free", 10 ** 60), ("single", (((10 ** 70, 3),),))), (1, 1, 0, 1), 1)

    def test_200_halvings(self):
        self.check(chain_of(200), (0, 0, 201, 200), 200)
        self.check(nested(200, lambda v: ("halve", 3, v or ("free", 1), REST)), (1, 0, 200, 200), 200)

    def test_of_searches(self):
        grid = system_of(2, "x^2 - 1", "y^2 - 4")
        tree = search(grid, around([0, 0], 3), 5)
        words = [leaf[0] for part, leaf in leaves(around([0, 0], 3), tree)]
        self.check(
            tree, (words.count("free"), words.count("single"), words.count("rest"), len(words) - 1), tree_depth(tree),
        )


if __name__ == "__main__":
    unittest.main()

"""Promise [0.2]: what holds for the whole package."""

import copy
import unittest

from helpers import box_of, iv, strange_values, uni
from rootfast import (
    bernstein, bounds, boxes, claims, combs, critical, desk, elimination, hunts, intervals, least, matrices, multiple, numbers,
    papers, paths, plane, polynomials, real, roots, signs, single, sums, systems, texts, trees, winding,
)

TWO = uni(-2, 0, 1)
CIRCLE = (((0, 0), (-2, 1)), ((0, 2), (1, 1)), ((2, 0), (1, 1)))
LINE = (((0, 1), (-1, 1)), ((1, 0), (1, 1)))
MATRIX = (((0, 1), (1, 2)), ((3, 1), (1, 1)))
ROOT = (TWO, iv(1, 2))
SQUARE = box_of((0, 1), (-1, 2))
OTHER = box_of((0, 1), (0, 1))
SYSTEM = (TWO,)
THIRD = (((1, 3),),)
BOX = (iv(1, 2),)
WIDE = (iv(0, 2),)
TREE = ("halve", 0, ("free", 0), ("single", THIRD))
FAMILY = ((((0, 0), (-1, 1)), ((0, 1), (-1, 1)), ((1, 0), (1, 1))),)
ONE = (((1, 1),),)
TUBE = (((0, 1), (1, 2), WIDE, ONE), ((1, 2), (1, 1), (iv(1, 3),), ONE))
ONES = ((1, 1), (1, 1))
PAPER = ((((0, 0), (1, 1)),), (((0, 1), (1, 1)), ((1, 0), (1, 1))))
AROUND = box_of((0, 2), (0, 2))
WALK = winding.walk((CIRCLE, LINE), AROUND, 5)
CLAIM = "variables 1\npolynomial x^2 - 2\nbox [0,2]\ntree halve 0 free 0 single 1/3\n"
LEAST = least.least(TWO, WIDE, (3, 1), 2)

# Each function of the interface with arguments, and what its result is made of.
CALLS = [
    (numbers.number, (4, -6)), (numbers.plus, ((1, 2), (1, 3))), (numbers.minus, ((1, 2), (1, 2))),
    (numbers.times, ((1, 2), (2, 3))), (numbers.over, ((1, 2), (-2, 3))), (numbers.compare, ((1, 2), (2, 3))),
    (numbers.power, ((1, 2), 3)), (numbers.is_number, ((1, 2),)), (numbers.write_number, ((1, 2),)),
    (numbers.read_number, ("-1/2",)),
    (intervals.is_interval, (iv(0, 1),)), (intervals.sum_of, (iv(0, 1), iv(-1, 2))),
    (intervals.difference_of, (iv(0, 1), iv(-1, 2))), (intervals.product_of, (iv(0, 1), iv(-1, 2))),
    (intervals.multiple_of, ((-1, 2), iv(0, 1))), (intervals.power_of, (iv(-1, 2), 2)),
    (intervals.meeting_of, (iv(0, 1), iv(1, 2))), (intervals.hull_of, (iv(0, 1), iv(2, 3))),
    (intervals.sign_of, (iv(1, 2),)), (intervals.has, (iv(0, 1), (1, 1))), (intervals.lies_within, (iv(0, 1), iv(0, 1))),
    (intervals.lies_inside, (iv(0, 1), iv(0, 1))), (intervals.middle_of, (iv(0, 1),)), (intervals.width_of, (iv(0, 1),)),
    (intervals.rounded, (iv(0, 1), 3)),
    (polynomials.is_polynomial, (2, CIRCLE)), (polynomials.polynomial, (1, [((1,), (1, 1)), ((1,), (0, 1)), ((0,), (2, 1))])),
    (polynomials.constant, (2, (1, 2))), (polynomials.variable, (3, 1)), (polynomials.added, (CIRCLE, LINE)),
    (polynomials.subtracted, (CIRCLE, LINE)), (polynomials.multiplied, (CIRCLE, LINE)),
    (polynomials.scaled, (CIRCLE, (1, 2))), (polynomials.raised, (2, LINE, 3)), (polynomials.derivative, (CIRCLE, 0)),
    (polynomials.value_at, (CIRCLE, ((1, 2), (1, 3)))), (polynomials.moved, (2, CIRCLE, ((1, 2), (1, 3)))),
    (polynomials.fixed, (2, CIRCLE, 1, (1, 2))), (polynomials.degree, (CIRCLE,)), (polynomials.degree_in, (CIRCLE, 1)),
    (systems.is_system, (2, (CIRCLE, LINE))), (systems.values_at, ((CIRCLE, LINE), ((1, 2), (1, 3)))),
    (systems.jacobian, (2, (CIRCLE, LINE), ((1, 2), (1, 3)))),
    (matrices.is_matrix, (2, 2, MATRIX)), (matrices.determinant, (MATRIX,)), (matrices.inverse, (MATRIX,)),
    (matrices.rank, (MATRIX,)), (matrices.applied, (MATRIX, ((1, 1), (2, 1)))), (matrices.transposed, (MATRIX,)),
    (matrices.matrix_product, (MATRIX, MATRIX)),
    (texts.read_polynomial, (2, "x*y - 1/2")), (texts.write_polynomial, (2, CIRCLE)),
    (texts.write_system, (2, (CIRCLE, LINE))), (texts.read_system, (2, "x\ny\n")),
    (single.divided, (TWO, uni(1, 1))), (single.common_divisor, (TWO, uni(1, 1))), (single.parts, (uni(0, 0, -1, 1),)),
    (single.simple_part, (uni(0, 0, -1, 1),)),
    (real.chain, (TWO,)), (real.changes, ([TWO, uni(0, 2), uni(2)], (1, 1))), (real.count_roots, (TWO, (0, 1), (2, 1))),
    (real.root_bound, (TWO,)), (real.isolated, (TWO,)), (real.refined, (TWO, iv(1, 2), 5)),
    (bernstein.bernstein, (TWO, (0, 1), (2, 1))), (bernstein.halved, (((0, 1), (0, 1), (1, 1)),)),
    (combs.variations, (TWO, (0, 1), (2, 1))), (combs.check_comb, (TWO, (0, 1), (2, 1), ("one",))),
    (combs.comb, (TWO, (-2, 1), (2, 1), 3)), (combs.comb_count, (TWO, (0, 1), (2, 1), ("one",))),
    (roots.is_root, (ROOT,)), (roots.root_of, ((1, 2),)), (roots.roots_of, (TWO,)), (roots.compare_roots, (ROOT, ROOT)),
    (roots.compare_root, (ROOT, (1, 1))), (roots.sign_at, (TWO, ROOT)), (roots.floor_of, (ROOT,)), (roots.near, (ROOT, 5)),
    (roots.negative_root, (ROOT,)), (roots.shifted_root, (ROOT, (1, 2))), (roots.scaled_root, (ROOT, (1, 2))),
    (roots.inverse_root, (ROOT,)),
    (boxes.is_box, (2, SQUARE)), (boxes.box_has, (SQUARE, ((0, 1), (0, 1)))), (boxes.box_within, (OTHER, SQUARE)),
    (boxes.box_inside, (OTHER, SQUARE)), (boxes.box_middle, (SQUARE,)), (boxes.box_widths, (SQUARE,)),
    (boxes.longest, (SQUARE,)), (boxes.halves, (SQUARE, 1)), (boxes.box_hull, (SQUARE, OTHER)), (boxes.widened, (SQUARE,)),
    (boxes.box_rounded, (SQUARE, 3)), (boxes.box_meeting, (SQUARE, OTHER)), (boxes.corners, (SQUARE,)),
    (bounds.natural, (CIRCLE, SQUARE)), (bounds.centered, (CIRCLE, SQUARE)), (bounds.bounds, (CIRCLE, SQUARE)),
    (bounds.slopes, ((CIRCLE, LINE), SQUARE)),
    (papers.is_free, (SYSTEM, BOX, 0)), (papers.is_single, (SYSTEM, BOX, THIRD)), (papers.is_cover, (SYSTEM, BOX, THIRD)),
    (papers.same_zero, (SYSTEM, BOX, THIRD, BOX, THIRD)), (papers.free_index, (SYSTEM, (iv(2, 3),))),
    (papers.krawczyk, (SYSTEM, BOX, THIRD)), (papers.narrowed, (SYSTEM, BOX, THIRD, 9)), (papers.single_paper, (SYSTEM, BOX)),
    (papers.cover_paper, (SYSTEM, BOX)),
    (trees.check_tree, (SYSTEM, WIDE, TREE)), (trees.search, (SYSTEM, WIDE, 1)), (trees.told, (WIDE, TREE)),
    (trees.rest, (WIDE, ("rest",))), (trees.different, (SYSTEM, [(BOX, THIRD), (BOX, THIRD)])),
    (trees.zeros_within, (SYSTEM, WIDE, 1)), (trees.tree_counts, (TREE,)), (trees.tree_depth, (TREE,)),
    (paths.is_family, (1, FAMILY)), (paths.check_tube, (1, FAMILY, TUBE)), (paths.at_time, (1, FAMILY, (1, 2))),
    (paths.straight, (1, SYSTEM, SYSTEM)), (paths.krawczyk_over, (1, FAMILY, iv(0, 1), WIDE, ONE)),
    (paths.zero_at, (1, FAMILY, TUBE, (1, 2), 9)), (paths.track, (1, FAMILY, WIDE, ONE, 5)), (paths.joined, (TUBE, TUBE)),
    (paths.cut, (TUBE, (1, 3))), (paths.end_boxes, (1, FAMILY, TUBE, 9)),
    (multiple.dual_size, (2, (CIRCLE, LINE), ONES, 2)), (multiple.multiplicity, (2, (CIRCLE, LINE), ONES, 2)),
    (multiple.deflated, (2, (CIRCLE, CIRCLE), ONES)), (multiple.deflation, (1, (uni(0, 0, 1),), ((0, 1),), 2)),
    (multiple.regular_part, (2, (CIRCLE, CIRCLE, LINE), ONES)),
    (elimination.resultant, (2, CIRCLE, LINE, 1)), (elimination.check_elimination, (2, CIRCLE, LINE, 1, PAPER)),
    (elimination.elimination_paper, (2, CIRCLE, LINE, 1)), (elimination.column_counts, (CIRCLE, LINE)),
    (elimination.zero_count, (CIRCLE, LINE)), (elimination.zeros_above, (CIRCLE, LINE, (1, 1))),
    (sums.sum_of_roots, (ROOT, ROOT)), (sums.product_of_roots, (ROOT, ROOT)),
    (winding.check_walk, ((CIRCLE, LINE), AROUND, WALK)), (winding.walk, ((CIRCLE, LINE), AROUND, 5)),
    (winding.winding, (WALK,)), (winding.least_zeros, ((CIRCLE, LINE), AROUND, 5)),
    (claims.write_box, (SQUARE,)), (claims.write_tree, (TREE,)), (claims.write_claim, (SYSTEM, WIDE, TREE)),
    (claims.read_box, (2, "[0,1] [-1,2]")), (claims.read_tree, (1, "halve 0 free 0 single 1/3")),
    (claims.read_claim, (CLAIM,)), (claims.judged, (CLAIM,)),
    (plane.rational_roots, (uni(-1, 1, 2),)), (plane.exchanged, (CIRCLE,)), (plane.is_fair, (CIRCLE, LINE)),
    (plane.frame, (CIRCLE, LINE)), (plane.plane_zeros, (CIRCLE, LINE, 4)), (plane.rational_zeros, (CIRCLE, LINE)),
    (plane.counted_zeros, (CIRCLE, LINE)),
    (least.check_least, (TWO, WIDE, LEAST)), (least.least, (TWO, WIDE, (3, 1), 2)), (least.least_between, (TWO, LEAST)),
    (critical.gradient, (2, CIRCLE)), (critical.hessian, (2, CIRCLE)), (critical.shape_over, (CIRCLE, SQUARE)),
    (critical.critical_boxes, (2, CIRCLE, SQUARE, 2)),
    (signs.marks, ([TWO, uni(1, 1)],)), (signs.samples, ([TWO, uni(1, 1)],)), (signs.sign_of_sample, (TWO, ("root", ROOT))),
    (signs.sign_table, ([TWO, uni(1, 1)],)), (signs.meets, ([(TWO, "<"), ((), "=")], ("number", (1, 1)))),
    (signs.cells_that_meet, ([(TWO, "<"), ((), "=")],)), (signs.solution, ([(TWO, "<"), ((), "=")],)),
    (desk.run_desk, ("polynomial x\nshow\nroots\n",)),
    (hunts.Hunt, (SYSTEM, WIDE, 1)), (hunts.restored, (SYSTEM, WIDE, 1, "[0] open\n[1] single 1/3\n")),
]

LISTS = {
    "parts", "chain", "isolated", "roots_of", "corners", "told", "rest", "different", "deflation", "column_counts",
    "rational_roots", "rational_zeros", "counted_zeros", "critical_boxes", "marks", "samples", "sign_table", "cells_that_meet",
}
TELLING = {
    "is_number", "is_interval", "has", "lies_within", "lies_inside", "is_polynomial", "is_system", "is_matrix", "check_comb",
    "is_root", "is_box", "box_has", "box_within", "box_inside", "is_free", "is_single", "is_cover", "same_zero", "check_tree",
    "is_family", "check_tube", "check_elimination", "check_walk", "is_fair",
    "check_least", "meets",
}
INTEGERS = {
    "compare", "sign_of", "degree", "degree_in", "rank", "changes", "count_roots", "root_bound", "variations", "comb_count",
    "compare_roots", "compare_root", "sign_at", "floor_of", "longest", "free_index", "tree_depth",
    "dual_size", "multiplicity", "zero_count", "winding", "least_zeros", "sign_of_sample",
}
HUNTS = {"Hunt", "restored"}
TEXTS = {
    "write_number", "write_polynomial", "write_system", "write_box", "write_tree", "write_claim", "shape_over", "run_desk",
}


def kind_of(name):
    for kind, names in ((list, LISTS), (bool, TELLING), (int, INTEGERS), (str, TEXTS), (hunts.Hunt, HUNTS)):
        if name in names:
            return kind
    return tuple


def plain_tuples_within(value):
    """True if nothing but tuples, integers that are no booleans, and texts is in a value."""
    if type(value) is tuple:
        return all(plain_tuples_within(x) for x in value)
    return type(value) in (int, str)


def comparable(value):
    """What a result is compared by: a hunt has no equality of its own."""
    return value.text() if type(value) is hunts.Hunt else value


class Everywhere(unittest.TestCase):
    def test_arguments_stay(self):
        for function, arguments in CALLS:
            before = copy.deepcopy(arguments)
            function(*arguments)
            self.assertEqual(arguments, before, function.__name__)

    def test_same_results(self):
        for function, arguments in CALLS:
            first, second = function(*arguments), function(*copy.deepcopy(arguments))
            self.assertEqual(comparable(first), comparable(second), function.__name__)

    def test_kinds_of_results(self):
        for function, arguments in CALLS:
            result = function(*arguments)
            self.assertIs(type(result), kind_of(function.__name__), function.__name__)
            if function is trees.zeros_within:
                self.assertEqual([type(x) for x in result], [list] * 3)
                result = sum(result, [])
            if function is plane.plane_zeros:
                self.assertEqual([type(x) for x in result], [list, list, int])
                result = result[0] + result[1]
            if type(result) in (list, tuple):
                self.assertTrue(plain_tuples_within(tuple(result)), function.__name__)

    def test_lists_are_new(self):
        for function, arguments in CALLS:
            if function.__name__ in LISTS:
                first = function(*arguments)
                first.append(None)
                first[0] = None
                second = function(*arguments)
                self.assertNotIn(None, second)
                self.assertIsNot(first, second)

    def test_any_value(self):
        for value in strange_values():
            for function in (numbers.is_number, intervals.is_interval, roots.is_root):
                self.assertIs(function(value), False)
            self.assertIs(boxes.is_box(2, value), False)
            self.assertIs(combs.check_comb(TWO, (0, 1), (2, 1), value), False)
            self.assertIs(elimination.check_elimination(2, CIRCLE, LINE, 1, value), False)
            self.assertIs(winding.check_walk((CIRCLE, LINE), AROUND, value), False)
            self.assertIs(least.check_least(TWO, WIDE, value), False)
            self.assertIs(polynomials.is_polynomial(2, value), False)
            self.assertIs(matrices.is_matrix(2, 2, value), False)
            self.assertIs(type(systems.is_system(2, value)), bool)

    def test_booleans_are_no_integers(self):
        self.assertIs(numbers.is_number((True, 1)), False)
        self.assertIs(intervals.is_interval(((False, 1), (1, 1))), False)
        self.assertIs(polynomials.is_polynomial(1, (((True,), (1, 1)),)), False)
        self.assertIs(systems.is_system(1, ((((1,), (True, 1)),),)), False)
        self.assertIs(matrices.is_matrix(1, 1, (((True, 1),),)), False)
        self.assertIs(boxes.is_box(1, (((False, 1), (1, 1)),)), False)
        self.assertIs(roots.is_root((uni(0, 1), ((0, True), (0, True)))), False)
        self.assertIs(combs.check_comb(TWO, (0, 1), (1, 1), True), False)
        self.assertIs(papers.is_single((uni(0, 1),), (iv(-1, 1),), (((True, 1),),)), False)
        self.assertIs(papers.is_cover((uni(0, 1),), (iv(-1, 1),), (((1, True),),)), False)
        self.assertIs(trees.check_tree(SYSTEM, (iv(2, 3),), ("free", False)), False)
        self.assertIs(paths.is_family(1, ((((1, 0), (True, 1)),),)), False)
        self.assertIs(paths.check_tube(1, FAMILY, (((False, 1), (1, 2), WIDE, ONE),)), False)

    def test_objects_copy_and_lists_stay_apart(self):
        pairs = [(BOX, THIRD)]
        found = trees.different(SYSTEM, pairs)
        found.append(None)
        self.assertEqual(pairs, [(BOX, THIRD)])
        inner, edge, left = trees.zeros_within(SYSTEM, WIDE, 1)
        inner.append(None)
        self.assertNotIn(None, trees.zeros_within(SYSTEM, WIDE, 1)[0])


if __name__ == "__main__":
    unittest.main()

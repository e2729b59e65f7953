"""Promises [13.1] to [13.3]: walks around boxes, and winding numbers."""

import unittest
from fractions import Fraction

from helpers import Maker, Odd, box_of, iv, nested, num, q, strange_values, system_of, value
from rootfast.bounds import bounds
from rootfast.boxes import halves
from rootfast.intervals import sign_of
from rootfast.matrices import determinant
from rootfast.papers import free_index, is_single, single_paper
from rootfast.systems import jacobian
from rootfast.winding import check_walk, least_zeros, walk, winding

PLAIN = system_of(2, "x", "y")
UNIT = box_of((-1, 1), (-1, 1))
PLAIN_WALK = (("sign", 1, -1), ("sign", 0, 1), ("sign", 1, 1), ("sign", 0, -1))
# Systems with a zero at 0 around which they wind so many times.
TURNS = [
    (2, ("x^2 - y^2", "2*x*y")), (1, ("x", "y")), (0, ("x^2 + 1/10", "y")), (-1, ("x", "-y")), (-2, ("x^2 - y^2", "-2*x*y")),
    (-1, ("y", "x")), (1, ("-y", "x")), (2, ("x*y", "y^2 - x^2")), (0, ("x^2 - y^3", "y + 3")),
]


def sides(box):
    """The two points from which and to which each side is walked."""
    (a, b), (c, d) = [(q(low), q(high)) for low, high in box]
    points = [(a, c), (b, c), (b, d), (a, d)]
    return list(zip(points, points[1:] + points[:1]))


def part_box(first, last):
    return tuple(iv(min(a, b), max(a, b)) for a, b in zip(first, last))


def middle(first, last):
    return tuple((a + b) / 2 for a, b in zip(first, last))


def slow_side(system, first, last, depth):
    """Word by word as the document tells it; None if it needs more halvings."""
    for k in range(2):
        sign = sign_of(bounds(system[k], part_box(first, last)))
        if sign:
            return ("sign", k, sign)
    if depth == 0:
        return None
    cut = middle(first, last)
    both = slow_side(system, first, cut, depth - 1), slow_side(system, cut, last, depth - 1)
    return None if None in both else ("halve",) + both


def slow_walk(system, box, depth):
    found = tuple(slow_side(system, first, last, depth) for first, last in sides(box))
    return None if None in found else found


def signs_along(paper):
    if paper[0] == "sign":
        return [paper[1:]]
    return signs_along(paper[1]) + signs_along(paper[2])


def slow_winding(papers):
    quarters = [{(0, 1): 0, (1, 1): 1, (0, -1): 2, (1, -1): 3}[s] for paper in papers for s in signs_along(paper)]
    total = sum({0: 0, 1: 1, 3: -1}[(b - a) % 4] for a, b in zip(quarters, quarters[1:] + quarters[:1]))
    assert total % 4 == 0
    return total // 4


def split(paper, times):
    """A side paper with each of its signs halved so many times."""
    if paper[0] == "halve":
        return ("halve", split(paper[1], times), split(paper[2], times))
    return paper if times == 0 else ("halve", split(paper, times - 1), split(paper, times - 1))


def places(paper):
    """All ways to the parts of a side paper, as lists of indexes."""
    return [[]] if paper[0] == "sign" else [[]] + [[k] + way for k in (1, 2) for way in places(paper[k])]


def replaced(paper, way, new):
    if not way:
        return new(paper)
    return paper[:way[0]] + (replaced(paper[way[0]], way[1:], new),) + paper[way[0] + 1:]


def made_systems(maker, many):
    for _ in range(many):
        system = tuple(maker.polynomial(2, 4, 2) for _ in range(2))
        box = tuple(iv(q(x), q(x) + abs(q(maker.number())) + Fraction(1, 3)) for x in maker.point(2))
        yield system, box


def nearly_linear(maker):
    """A polynomial that is 0 near to 0, and flat nowhere in the box."""
    terms = [((0, 0), 20), ((0, 1), 1), ((1, 0), 1), ((1, 1), 20), ((2, 0), 20)]
    made = [(e, num(q(maker.number(9, 3)) / size)) for e, size in terms]
    return tuple((e, x) for e, x in made if x[0] != 0)


class Checking(unittest.TestCase):
    def check(self, papers, expected, system=PLAIN, box=UNIT):
        self.assertIs(check_walk(system, box, papers), expected, papers)

    def test_right_ones(self):
        self.check(PLAIN_WALK, True)
        for times in range(4):
            self.check(tuple(split(paper, times) for paper in PLAIN_WALK), True)
        system = system_of(2, "x - 1/2*y", "y + 1/3*x")
        self.check(slow_walk(system, UNIT, 8), True, system)

    def test_halves_in_the_order_of_the_walk(self):
        system = system_of(2, "x + y", "x - y")
        here = (
            ("halve", ("sign", 0, -1), ("sign", 1, 1)), ("halve", ("sign", 1, 1), ("sign", 0, 1)),
            ("halve", ("sign", 0, 1), ("sign", 1, -1)), ("halve", ("sign", 1, -1), ("sign", 0, -1)),
        )
        self.check(here, True, system)
        for k in range(4):
            self.check(here[:k] + (("halve", here[k][2], here[k][1]),) + here[k + 1:], False, system)
        wide = box_of((-1, 1), (-2, 2))
        system = system_of(2, "x + y", "x - 2*y")
        self.assertEqual(walk(system, wide, 5), slow_walk(system, wide, 5))
        here = walk(system, wide, 5)
        self.check(here, True, system, wide)
        for k in range(4):
            if here[k][0] == "halve":
                turned = here[:k] + (("halve", here[k][2], here[k][1]),) + here[k + 1:]
                self.check(turned, False, system, wide)
        self.assertIn("halve", [paper[0] for paper in here])

    def test_each_side_has_its_order(self):
        # Opposite sides are walked in opposite directions.
        system = system_of(2, "4*x - 1", "2*y")
        for k, expected in ((0, True), (2, False)):
            papers = list(PLAIN_WALK)
            papers[k] = ("halve", ("sign", 0, -1), ("sign", 1, -1 if k == 0 else 1))
            self.check(tuple(papers), expected, system)
            papers[k] = ("halve", ("sign", 1, -1 if k == 0 else 1), ("sign", 0, -1))
            self.check(tuple(papers), not expected, system)
        system = system_of(2, "2*x", "4*y - 1")
        for k, expected in ((1, True), (3, False)):
            papers = list(PLAIN_WALK)
            papers[k] = ("halve", ("sign", 1, -1), ("sign", 0, 1 if k == 1 else -1))
            self.check(tuple(papers), expected, system)
            papers[k] = ("halve", ("sign", 0, 1 if k == 1 else -1), ("sign", 1, -1))
            self.check(tuple(papers), not expected, system)

    def test_wrong_signs(self):
        for side in range(4):
            for k in (0, 1, 2, -1, 10 ** 20):
                for s in (1, -1, 0, 2, -2):
                    papers = PLAIN_WALK[:side] + (("sign", k, s),) + PLAIN_WALK[side + 1:]
                    self.check(papers, papers == PLAIN_WALK)

    def test_bounds_decide(self):
        # A sign that holds, but not as far as the bounds tell.
        system = system_of(2, "x^2*y^2 - 2*x*y^2 + y^2 + 1/10", "y + 5")
        side = part_box((Fraction(1), Fraction(-1)), (Fraction(1), Fraction(1)))
        self.assertEqual(sign_of(bounds(system[0], side)), 1)
        wavy = system_of(2, "x^4 - 2*x^2 + 11/10", "y + 5")
        lower = part_box((Fraction(-1), Fraction(-1)), (Fraction(1), Fraction(-1)))
        self.assertEqual(sign_of(bounds(wavy[0], lower)), 0)
        self.check((("sign", 0, 1), ("sign", 0, 1), ("sign", 1, 1), ("sign", 0, 1)), False, wavy)
        self.check((("sign", 1, 1), ("sign", 0, 1), ("sign", 1, 1), ("sign", 0, 1)), True, wavy)

    def test_forty_halvings(self):
        for side in range(4):
            for way in (1, 2):
                for depth, expected in ((39, True), (40, True), (41, False), (120, False), (199, False)):
                    leaf = PLAIN_WALK[side]
                    make = (lambda v: ("halve", v or leaf, leaf)) if way == 1 else (lambda v: ("halve", leaf, v or leaf))
                    papers = PLAIN_WALK[:side] + (nested(depth, make),) + PLAIN_WALK[side + 1:]
                    self.check(papers, expected)

    def test_changed_in_one_place(self):
        system = system_of(2, "x^2 - y^2 - 1/9", "2*x*y + 1/7")
        right = walk(system, UNIT, 7)
        self.check(right, True, system)
        for side in range(4):
            for way in places(right[side]):
                for new in (
                    lambda v: v[:2] + (-v[2],) if v[0] == "sign" else ("halve", v[2], v[2]),
                    lambda v: ("sign", 1 - v[1], v[2]) if v[0] == "sign" else ("halve", v[1], v[1]),
                    lambda v: None, lambda v: list(v), lambda v: v + (0,), lambda v: v[:2], lambda v: ("hide",) + v[1:],
                    lambda v: ("halve", v, None), lambda v: ("sign",) + v[1:] if v[0] == "halve" else ("halve",) + v[1:],
                ):
                    bent = right[:side] + (replaced(right[side], way, new),) + right[side + 1:]
                    # The other polynomial may have the same sign there.
                    self.check(bent, slow_check(system, UNIT, bent), system)
        for i in range(4):
            for j in range(i):
                bent = list(right)
                bent[i], bent[j] = right[j], right[i]
                self.check(tuple(bent), slow_check(system, UNIT, tuple(bent)), system)
        self.check(right[1:] + right[:1], False, system)

    def test_wrong_forms(self):
        for wrong in (
            (), PLAIN_WALK[:3], PLAIN_WALK + PLAIN_WALK[:1], list(PLAIN_WALK), PLAIN_WALK[0], "walk", None, True, 4,
            {k: v for k, v in enumerate(PLAIN_WALK)}, (PLAIN_WALK,), (None,) * 4, ((),) * 4, ("sign",) * 4, Odd(),
        ):
            self.check(wrong, False)
        for wrong in (
            ["sign", 1, -1], ("sign", 1), ("sign", 1, -1, 0), ("sign",), (), ("sign", True, -1), ("sign", 1, "-1"),
            ("sign", "1", -1),
            ("sign", 1, num(-1)), ("sign", 1, -1.0), ("sign", 1.0, -1), ("sign", None, -1), ("sign", 1, None),
            ("Sign", 1, -1),
            (b"sign", 1, -1), (None, 1, -1), (True, 1, -1), ("rest", 1, -1), ("free", 1, -1), ("halve", 1, -1),
            ("halve", ["sign", 1, -1], ("sign", 1, -1)), ("halve", ("sign", 1, -1)), ("halve", ("sign", 1, -1), ()),
            ("halve", 0, ("sign", 1, -1), ("sign", 1, -1)), (Odd(), 1, -1), ("sign", Odd(), -1), ("sign", 1, Odd()),
        ):
            self.check((wrong,) + PLAIN_WALK[1:], False)
        self.check((("sign", 1, -1), ("sign", 0, True), ("sign", 1, 1), ("sign", 0, -1)), False)
        self.check((("sign", 1, -1), ("sign", False, 1), ("sign", 1, 1), ("sign", 0, -1)), False)
        self.check((("sign", True, -1),) + PLAIN_WALK[1:], False)

    def test_strange_values(self):
        for strange in strange_values():
            for wrong in (
                strange, (strange,) * 4, (strange,) + PLAIN_WALK[1:], PLAIN_WALK[:3] + (strange,),
                (("halve", strange, strange),) + PLAIN_WALK[1:], (("sign", strange, -1),) + PLAIN_WALK[1:],
                (("sign", 1, strange),) + PLAIN_WALK[1:], ((strange, 1, -1),) + PLAIN_WALK[1:],
            ):
                # 1 is the index, -3 no sign: what is an integer may make it right.
                self.check(wrong, wrong == PLAIN_WALK if type(strange) is int else False)
        deep = nested(198, lambda v: ("halve", v, v))
        self.check((deep,) * 4, False)


def slow_check(system, box, papers):
    def right(paper, first, last):
        if type(paper) is not tuple or len(paper) != 3:
            return False
        if paper[0] == "halve":
            cut = middle(first, last)
            return right(paper[1], first, cut) and right(paper[2], cut, last)
        if paper[0] != "sign" or paper[1] not in (0, 1) or paper[2] not in (1, -1):
            return False
        return sign_of(bounds(system[paper[1]], part_box(first, last))) == paper[2]

    return all(right(paper, first, last) for paper, (first, last) in zip(papers, sides(box)))


class Walking(unittest.TestCase):
    def test_known_one(self):
        for depth in (0, 1, 40):
            self.assertEqual(walk(PLAIN, UNIT, depth), PLAIN_WALK)
        # The polynomial with the least index is taken first.
        system = system_of(2, "x + 10", "y + 10")
        self.assertEqual(walk(system, UNIT, 3), (("sign", 0, 1),) * 4)
        system = system_of(2, "x", "y + 10")
        right = ("sign", 0, 1)
        self.assertEqual(walk(system, UNIT, 3), (("sign", 1, 1), right, ("sign", 1, 1), ("sign", 0, -1)))

    def test_no_more_than_needed(self):
        system = system_of(2, "x + y", "x - y")
        box = box_of((-1, Fraction(1, 2)), (-Fraction(1, 3), 1))
        for depth in range(7):
            self.assertEqual(walk(system, box, depth), slow_walk(system, box, depth))
        self.assertIsNone(walk(system, box, 0))

    def test_against_the_words(self):
        found = set()
        for system, box in made_systems(Maker(131), 150):
            for depth in range(5):
                here = walk(system, box, depth)
                self.assertEqual(here, slow_walk(system, box, depth))
                found.add(here is None)
                if here is not None:
                    self.assertIs(type(here), tuple)
                    self.assertIs(check_walk(system, box, here), True)
        self.assertEqual(found, {True, False})

    def test_zero_on_the_boundary(self):
        for texts, box in (
            (("x", "y"), box_of((0, 1), (-1, 1))), (("x", "y"), box_of((-1, 1), (-1, 0))),
            (("x", "y"), box_of((0, 1), (0, 1))),
            (("x - 1/3", "y - 1"), UNIT), (("0", "0"), UNIT), (("x", "0"), UNIT), (("x^2 - 1/3", "y + 1"), UNIT),
        ):
            for depth in (0, 1, 5, 40):
                self.assertIsNone(walk(system_of(2, *texts), box, depth))
                self.assertIsNone(least_zeros(system_of(2, *texts), box, depth))

    def test_deep_walks(self):
        # A zero so near to the lower side that only deep halves are apart from it.
        for bits in (10, 30, 37):
            tiny = Fraction(1, 2 ** bits)
            system = system_of(2, f"x - {tiny}", f"y + {1 - tiny}")
            depths = [depth for depth in range(0, 41) if walk(system, UNIT, depth) is not None]
            self.assertEqual(depths, list(range(depths[0], 41)) if depths else [])
            self.assertTrue(depths)
            self.assertEqual(winding(walk(system, UNIT, 40)), 1)
            self.assertIs(check_walk(system, UNIT, walk(system, UNIT, 40)), True)


class Winding(unittest.TestCase):
    def test_known_ones(self):
        for turns, texts in TURNS:
            system = system_of(2, *texts)
            for box in (UNIT, box_of((-Fraction(1, 3), 1), (-1, Fraction(2, 7))), box_of((-2, 1), (-Fraction(1, 5), 3))):
                here = walk(system, box, 12)
                self.assertEqual(winding(here), turns, texts)
                self.assertIs(type(winding(here)), int)
                self.assertEqual(least_zeros(system, box, 12), abs(turns))
            self.assertEqual(winding(walk(system, box_of((5, 6), (5, 7)), 12)), 0)

    def test_against_the_words(self):
        for system, box in made_systems(Maker(132), 300):
            here = walk(system, box, 6)
            if here is not None:
                self.assertEqual(winding(here), slow_winding(here))
                self.assertEqual(least_zeros(system, box, 6), abs(slow_winding(here)))
            else:
                self.assertIsNone(least_zeros(system, box, 6))

    def test_same_for_all_walks(self):
        system = system_of(2, "x^2 - y^2 - 1/9", "2*x*y + 1/7")
        here = walk(system, UNIT, 7)
        self.assertEqual(winding(here), 2)
        self.assertEqual(winding(tuple(split(paper, 2) for paper in here)), 2)
        # Where both polynomials have a sign, either may tell it.
        self.assertEqual(winding(PLAIN_WALK), 1)
        beside = (
            ("halve", ("halve", ("sign", 0, -1), ("sign", 1, -1)), ("halve", ("sign", 1, -1), ("sign", 0, 1))),
        ) + PLAIN_WALK[1:]
        self.assertIs(check_walk(PLAIN, UNIT, beside), True)
        self.assertEqual(winding(beside), 1)
        quarter = ("halve", ("halve", ("sign", 1, -1), ("sign", 1, -1)), ("halve", ("sign", 1, -1), ("sign", 0, 1)))
        self.assertIs(check_walk(PLAIN, UNIT, (quarter,) + PLAIN_WALK[1:]), True)
        self.assertEqual(winding((quarter,) + PLAIN_WALK[1:]), 1)

    def test_halves_add_up(self):
        count = 0
        for system, box in made_systems(Maker(133), 200):
            whole = walk(system, box, 7)
            for k in (0, 1):
                parts = [walk(system, half, 7) for half in halves(box, k)]
                if whole is not None and None not in parts:
                    self.assertEqual(winding(parts[0]) + winding(parts[1]), winding(whole))
                    count += winding(whole) != 0
        self.assertGreater(count, 10)

    def test_regular_zeros(self):
        # Zeros at 0 and 1 in one direction, with other signs of the determinant, and at -1 and 1 in the other one.
        system = system_of(2, "x^2 - x", "y^3 - y")
        cases = [
            (box_of((-1, 2), (-2, 2)), 0), (box_of((-1, Fraction(1, 2)), (-2, 2)), -1),
            (box_of((Fraction(1, 2), 2), (-2, 2)), 1),
            (box_of((Fraction(1, 2), 2), (-2, Fraction(1, 2))), 0), (box_of((Fraction(1, 2), 2), (Fraction(1, 2), 2)), 1),
            (box_of((Fraction(1, 2), 2), (Fraction(-1, 2), Fraction(1, 2))), -1),
        ]
        zeros = [(x, y) for x in (0, 1) for y in (-1, 0, 1)]
        for box, expected in cases:
            here = [z for z in zeros if all(q(i[0]) < c < q(i[1]) for i, c in zip(box, z))]
            signs = [determinant(jacobian(2, system, tuple(num(c) for c in z))) for z in here]
            self.assertEqual(sum(1 if s[0] > 0 else -1 for s in signs), expected)
            self.assertEqual(winding(walk(system, box, 10)), expected)
            self.assertEqual(least_zeros(system, box, 10), abs(expected))

    def test_beside_papers(self):
        single = free = 0
        maker = Maker(134)
        near = [(tuple(nearly_linear(maker) for _ in range(2)), UNIT) for _ in range(60)]
        for system, box in near + list(made_systems(maker, 200)):
            here = walk(system, box, 6)
            if here is None:
                continue
            A = single_paper(system, box)
            if A is not None:
                single += 1
                self.assertIs(is_single(system, box, A), True)
                self.assertIn(winding(here), (1, -1))
                self.assertEqual(least_zeros(system, box, 6), 1)
            if free_index(system, box) is not None:
                free += 1
                self.assertEqual(winding(here), 0)
        self.assertGreater(single, 5)
        self.assertGreater(free, 20)

    def test_a_zero_that_is_not_regular(self):
        # A winding number of 2 with one zero alone, and one of 0 with a zero in the box.
        self.assertEqual(least_zeros(system_of(2, "x^2 - y^2", "2*x*y"), UNIT, 9), 2)
        system = system_of(2, "x^2 - y^3", "y")
        self.assertEqual(value(system[0], [0, 0]), 0)
        self.assertEqual(least_zeros(system, UNIT, 9), 0)


if __name__ == "__main__":
    unittest.main()

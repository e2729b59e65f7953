"""Promises [9.1] and [9.2]: hunts, and their texts."""

import itertools
import random
import unittest
from fractions import Fraction

from helpers import around, box_of, system_of, uni
from rootfast.boxes import halves, longest
from rootfast.errors import BadText, NoPlace
from rootfast.hunts import Hunt, restored
from rootfast.trees import check_tree, search

TWO = (uni(-2, 0, 1),)
BOX = box_of((0, 2))
GRID = system_of(2, "x^2 - 1", "y^2 - 4")
SQUARE = around([Fraction(1, 7), 0], 3)
DOUBLE = system_of(1, "x^2")
FLAT = box_of((-1, 1))

PROBLEMS = [
    (TWO, BOX, 1), (TWO, BOX, 0), (TWO, box_of((-5, 5)), 6), (DOUBLE, FLAT, 4), (GRID, SQUARE, 4),
    (system_of(2, "x^2 + y^2 - 2", "x - y"), around([0, 0], 2), 4), (system_of(3, "x + y", "y*z - 1", "x^2 - z"), around([0, 0, 0], 2), 3),
]


def first(places, step):
    return places[0]


def last(places, step):
    return places[-1]


def mixed(places, step):
    return random.Random(step).choice(places)


def in_steps(hunt, choice, most=10 ** 6):
    """Work at a hunt, in an order of choice, and tell the words of each place that was worked at."""
    told = {}
    while hunt.open_places() and len(told) < most:
        place = choice(hunt.open_places(), len(told))
        told[place] = hunt.work(place)
    return told


class Working(unittest.TestCase):
    def test_example(self):
        hunt = Hunt(TWO, BOX, 1)
        self.assertEqual([hunt.open_places(), hunt.is_done(), hunt.tree(), hunt.counts()], [[""], False, ("rest",), (1, 0, 0, 0)])
        self.assertEqual(hunt.work(""), "halve")
        self.assertEqual(hunt.open_places(), ["0", "1"])
        self.assertEqual(hunt.tree(), ("halve", 0, ("rest",), ("rest",)))
        self.assertEqual(hunt.work("1"), "single")
        self.assertEqual([hunt.open_places(), hunt.counts(), hunt.is_done()], [["0"], (1, 0, 1, 0), False])
        self.assertEqual(hunt.tree(), ("halve", 0, ("rest",), ("single", (((1, 3),),))))
        self.assertEqual(hunt.work("0"), "free")
        self.assertEqual([hunt.open_places(), hunt.counts(), hunt.is_done()], [[], (0, 1, 1, 0), True])
        self.assertEqual(hunt.tree(), search(TWO, BOX, 1))

    def test_any_order(self):
        for (system, box, depth), choice in itertools.product(PROBLEMS, (first, last, mixed)):
            hunt = Hunt(system, box, depth)
            in_steps(hunt, choice)
            self.assertIs(hunt.is_done(), True)
            self.assertEqual(hunt.tree(), search(system, box, depth))

    def test_in_between(self):
        for system, box, depth in PROBLEMS:
            hunt = Hunt(system, box, depth)
            counts = {"free": 0, "single": 0, "rest": 0, "halve": 0}
            while hunt.open_places():
                places = hunt.open_places()
                self.assertEqual(places, sorted(places))
                place = mixed(places, sum(counts.values()))
                word = hunt.work(place)
                counts[word] += 1
                following = [x for x in places if x != place] + ([place + "0", place + "1"] if word == "halve" else [])
                self.assertEqual(hunt.open_places(), sorted(following))
                self.assertIs(hunt.is_done(), not following)
                self.assertEqual(hunt.counts(), (len(following), counts["free"], counts["single"], counts["rest"]))
                self.assertIs(check_tree(system, box, hunt.tree()), True)

    def test_order_of_places(self):
        hunt = Hunt(DOUBLE, FLAT, 2)
        for place in ("", "0"):
            hunt.work(place)
        self.assertEqual(hunt.open_places(), ["00", "01", "1"])

    def test_depth_zero(self):
        hunt = Hunt(TWO, BOX, 0)
        self.assertEqual(hunt.work(""), "rest")
        self.assertEqual([hunt.is_done(), hunt.counts(), hunt.tree(), hunt.text()], [True, (0, 0, 0, 1), ("rest",), "[] rest\n"])
        self.assertEqual(Hunt(TWO, box_of((2, 3)), 0).work(""), "free")

    def test_boxes(self):
        hunt = Hunt(GRID, SQUARE, 4)
        self.assertEqual(hunt.box_at(""), SQUARE)
        expected = {"": SQUARE}
        for place, word in in_steps(hunt, mixed).items():
            if word == "halve":
                box = expected[place]
                expected[place + "0"], expected[place + "1"] = halves(box, longest(box))
        for place, box in expected.items():
            self.assertEqual(hunt.box_at(place), box)
        for place in ("2", "00000000", " ", "x", "0 ", "-1"):
            with self.assertRaises(NoPlace):
                hunt.box_at(place)

    def test_no_place(self):
        hunt = Hunt(TWO, BOX, 1)
        for place in ("0", "1", "00", "2", "x", " "):
            with self.assertRaises(NoPlace):
                hunt.work(place)
            with self.assertRaises(NoPlace):
                hunt.box_at(place)
        self.assertEqual(hunt.text(), "[] open\n")
        hunt.work("")
        before = hunt.text()
        for place in ("", "00", "01", "10", "2", "000"):
            with self.assertRaises(NoPlace):
                hunt.work(place)
        self.assertEqual(hunt.text(), before)
        hunt.work("1")
        with self.assertRaises(NoPlace):
            hunt.work("1")
        with self.assertRaises(NoPlace):
            hunt.box_at("10")
        self.assertEqual([hunt.box_at("1"), hunt.box_at("0"), hunt.box_at("")], [box_of((1, 2)), box_of((0, 1)), BOX])

    def test_lists_are_new(self):
        hunt = Hunt(TWO, BOX, 1)
        hunt.open_places().append("0")
        self.assertEqual(hunt.open_places(), [""])

    def test_hunts_are_apart(self):
        one, other = Hunt(TWO, BOX, 1), Hunt(TWO, BOX, 1)
        one.work("")
        self.assertEqual(other.open_places(), [""])


class Texts(unittest.TestCase):
    def test_some(self):
        hunt = Hunt(TWO, BOX, 1)
        self.assertEqual(hunt.text(), "[] open\n")
        hunt.work("")
        self.assertEqual(hunt.text(), "[0] open\n[1] open\n")
        hunt.work("1")
        self.assertEqual(hunt.text(), "[0] open\n[1] single 1/3\n")
        hunt.work("0")
        self.assertEqual(hunt.text(), "[0] free 0\n[1] single 1/3\n")
        hunt = Hunt(system_of(2, "x + y", "x - y + 1"), around([0, 0], 1), 3)
        self.assertEqual(hunt.work(""), "single")
        self.assertEqual(hunt.text(), "[] single 1/2 1/2 1/2 -1/2\n")
        hunt = Hunt(system_of(2, "x", "x + 2"), around([0, 0], 1), 3)
        self.assertEqual([hunt.work(""), hunt.text()], ["free", "[] free 1\n"])

    def test_leaves_and_open_boxes_are_in_order(self):
        hunt = Hunt(DOUBLE, FLAT, 2)
        in_steps(hunt, last, 3)
        self.assertEqual(hunt.text(), "[0] open\n[10] open\n[11] free 0\n")

    def test_restored(self):
        for (system, box, depth), choice, most in itertools.product(PROBLEMS, (first, last, mixed), (0, 1, 2, 5, 11, 10 ** 6)):
            hunt = Hunt(system, box, depth)
            worked = in_steps(hunt, choice, most)
            again = restored(system, box, depth, hunt.text())
            self.assertIs(type(again), Hunt)
            for method in ("open_places", "is_done", "tree", "counts", "text"):
                self.assertEqual(getattr(again, method)(), getattr(hunt, method)())
            for place in list(worked) + hunt.open_places():
                self.assertEqual(again.box_at(place), hunt.box_at(place))
            for place in worked:
                with self.assertRaises(NoPlace):
                    again.work(place)
            in_steps(again, last)
            self.assertEqual(again.tree(), search(system, box, depth))
            self.assertEqual(len(hunt.open_places()) == 0, hunt.is_done())

    def test_other_arguments(self):
        hunt = Hunt(TWO, BOX, 1)
        in_steps(hunt, first)
        self.assertEqual(restored(TWO, BOX, 5, hunt.text()).tree(), hunt.tree())
        for system, box, depth in ((TWO, BOX, 0), (TWO, box_of((0, 3)), 1), ((uni(-7, 0, 1),), BOX, 1), (DOUBLE, BOX, 1)):
            with self.assertRaises(BadText):
                restored(system, box, depth, hunt.text())

    def bad(self, text, system=TWO, box=BOX, depth=1):
        with self.assertRaises(BadText, msg=text):
            restored(system, box, depth, text)

    def test_wrong_lines(self):
        good = "[0] free 0\n[1] single 1/3\n"
        self.assertEqual(restored(TWO, BOX, 1, good).text(), good)
        for text in (
            "", "\n", "[0] free 0\n", "[1] single 1/3\n", "[0] free 0\n[0] free 0\n[1] single 1/3\n", good + "[1] single 1/3\n",
            "[1] single 1/3\n[0] free 0\n", good[:-1], good + "\n", "\n" + good, good + " ", " " + good, "[0] free 0\n\n[1] single 1/3\n",
            "[] open\n" + good, "[] halve\n" + good, "[] halve 0\n" + good, good + "[] open\n",
        ):
            self.bad(text)

    def test_wrong_words(self):
        for text in (
            "[0] free\n[1] single 1/3\n", "[0] free 1\n[1] single 1/3\n", "[0] free 00\n[1] single 1/3\n", "[0] free 0 \n[1] single 1/3\n",
            "[0] free  0\n[1] single 1/3\n", "[0] rest\n[1] single 1/3\n", "[0] single 1/3\n[1] single 1/3\n", "[0] free 0\n[1] single\n",
            "[0] free 0\n[1] single 1/4\n", "[0] free 0\n[1] single 2/6\n", "[0] free 0\n[1] single 1/3 0\n", "[0] free 0\n[1] rest\n",
            "[0] free 0\n[1] free 0\n", "[0] free 0\n[1] opened\n", "[0] free 0\n[1] Open\n", "[0] free 0\n[1]\n", "[0] free 0\n[1] \n",
            "[0] free 0\n[1] single " + "1" * 70 + "/3\n", "[0] free 0\n[1] closed\n", "[0] free 0\n[1] open \n", "[0] free 0\r\n[1] open\r\n",
        ):
            self.bad(text)

    def test_wrong_places(self):
        for text in (
            "[] free 0\n", "[] single 1/3\n", "[] rest\n", "[] \n", "[]\n", "[]open\n", "() open\n", "open\n", "[ ] open\n", "[2] open\n[1] open\n",
            "0 open\n1 open\n", "(0] open\n[1] open\n", "[0 open\n[1 open\n", "[0]  open\n[1] open\n", "[00] open\n[01] open\n[1] open\n",
            "[0] open\n[10] open\n[11] open\n", "[0] open\n[1] open\n[11] open\n", "[x] open\n", "[" + "0" * 10 ** 6 + "] open\n",
            "[0] open\n[1] open] open\n", "[[0] open\n[1] open\n",
        ):
            self.bad(text)
            self.bad(text, depth=6) if text != "[] rest\n" else None

    def test_impossible_hunts(self):
        # A box that is free is never halved.
        self.bad("[00] open\n[01] open\n[1] open\n", depth=4)
        self.bad("[0] rest\n[1] rest\n", DOUBLE, FLAT, 2)
        self.bad("[] rest\n", DOUBLE, FLAT, 2)
        self.assertEqual(restored(DOUBLE, FLAT, 1, "[0] rest\n[1] rest\n").counts(), (0, 0, 0, 2))
        self.assertEqual(restored(DOUBLE, FLAT, 0, "[] rest\n").counts(), (0, 0, 0, 1))

    def test_long_numbers(self):
        system = (uni(Fraction(-2, 7), 0, 1 + Fraction(1, 3 ** 300)),)
        box = box_of((0, 1))
        hunt = Hunt(system, box, 8)
        in_steps(hunt, first)
        self.assertTrue(any(len(word) > 120 for word in hunt.text().split()))
        self.assertEqual(restored(system, box, 8, hunt.text()).tree(), hunt.tree())


if __name__ == "__main__":
    unittest.main()

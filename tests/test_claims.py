"""Promises [14.1] to [14.3]: texts of boxes and trees, and claims."""

import itertools
import unittest
from fractions import Fraction

from helpers import Maker, box_of, iv, nested, num, q, system_of, uni
from rootfast.boxes import is_box
from rootfast.claims import judged, read_box, read_claim, read_tree, write_box, write_claim, write_tree
from rootfast.errors import BadText, RootfastError
from rootfast.numbers import write_number
from rootfast.texts import write_polynomial
from rootfast.trees import check_tree, different, rest, search, told

REST = ("rest",)
TWO = (uni(-2, 0, 1),)
THIRD = (((1, 3),),)
TREE = ("halve", 0, ("free", 0), ("single", THIRD))
CLAIM = "variables 1\npolynomial x^2 - 2\nbox [0,2]\ntree halve 0 free 0 single 1/3\n"
SIXTY = "9" * 60
SIXTY_ONE = "1" + "0" * 60


def slow_tree_text(tree):
    if tree[0] == "halve":
        return " ".join(["halve", str(tree[1]), slow_tree_text(tree[2]), slow_tree_text(tree[3])])
    if tree[0] == "single":
        return " ".join(["single"] + [write_number(x) for row in tree[1] for x in row])
    return " ".join(str(x) for x in tree)


def made_tree(maker, n, depth):
    kind = maker.random.randint(0, 5 if depth else 2)
    if kind == 0:
        return REST
    if kind == 1:
        return ("free", maker.random.choice((0, 1, 7, 10 ** 9 - 1)))
    if kind == 2:
        return ("single", maker.matrix(n, n))
    return ("halve", maker.random.randrange(n), made_tree(maker, n, depth - 1), made_tree(maker, n, depth - 1))


def bent(text):
    """Texts like another one, with a sign or word put in, taken out, exchanged or doubled."""
    found = []
    for at in range(len(text) + 1):
        found += [text[:at] + sign + text[at:] for sign in " -+0/,[]x\n\t"]
        found += [text[:at] + text[at + 1:], text[:at] + text[at:at + 1] * 2 + text[at + 1:]]
        found += [text[:at] + text[at + 1:at + 2] + text[at:at + 1] + text[at + 2:]]
    words = text.split(" ")
    for at in range(len(words)):
        found += [" ".join(words[:at] + [word] + words[at:]) for word in ("rest", "free", "single", "halve", "0", "1", "[0,1]", "")]
        found += [" ".join(words[:at] + words[at + 1:]), " ".join(words[:at] + [words[at]] * 2 + words[at + 1:])]
        found += [" ".join(words[:at] + words[at + 1:at + 2] + words[at:at + 1] + words[at + 2:])]
    return [other for other in found if other != text]


class Boxes(unittest.TestCase):
    def test_texts(self):
        for text, box in (
            ("[0,1]", (iv(0, 1),)), ("[-1/2,3] [7,7]", (iv(Fraction(-1, 2), 3), iv(7, 7))),
            ("[-3,-2] [0,0] [-1/7,1/7] [5,6]", (iv(-3, -2), iv(0, 0), iv(Fraction(-1, 7), Fraction(1, 7)), iv(5, 6))),
        ):
            self.assertEqual(write_box(box), text)
            self.assertEqual(read_box(len(box), text), box)

    def test_back_and_forth(self):
        maker = Maker(141)
        for _ in range(100):
            n = maker.random.randint(1, 4)
            box = maker.box(n)
            text = write_box(box)
            self.assertEqual(text, " ".join(f"[{q(low)},{q(high)}]" for low, high in box))
            self.assertEqual(read_box(n, text), box)
            for m in range(1, 5):
                if m != n:
                    with self.assertRaises(BadText):
                        read_box(m, text)

    def test_bent_ones(self):
        for n, text in ((1, "[-1/2,13]"), (2, "[0,1] [-2,3/4]")):
            for other in bent(text):
                try:
                    box = read_box(n, other)
                except BadText:
                    continue
                self.assertTrue(is_box(n, box))
                self.assertEqual(write_box(box), other)

    def test_bad_ones(self):
        for text in (
            "", " ", "[]", "[1]", "[,]", "[1,]", "[,1]", "[2,1]", "[1,1/2]", "(0,1)", "[0;1]", "[0, 1]", "[0,1] ", " [0,1]",
            "[0,1]\n", "0,1", "[0,1", "0,1]", "[[0,1]]", "[0,1,2]", "[2/4,1]", "[0,3/1]", "[-0,1]", "[07,8]", "[+1,2]",
            "[1/0,2]",
            "[0.5,1]", "[1e1,20]", "[0,1][0,1]", "[0,1]  [0,1]", "[0,1],[0,1]", "[x,1]", "[--1,1]", "[1/-2,1]", "[0,\u0661]",
        ):
            for n in (1, 2):
                with self.assertRaises(BadText):
                    read_box(n, text)

    def test_figures(self):
        for low, high in ((f"-{SIXTY}", SIXTY), (f"1/{SIXTY}", "1"), ("0", f"{SIXTY}/1{'0' * 58}7")):
            text = f"[{low},{high}]"
            self.assertEqual(write_box(read_box(1, text)), text)
        for low, high in ((f"-{SIXTY_ONE}", "0"), ("0", SIXTY_ONE), (f"1/{SIXTY_ONE}", "1"), ("0", f"{SIXTY_ONE}/7")):
            with self.assertRaises(BadText):
                read_box(1, f"[{low},{high}]")
        # What is too long to be read may be written.
        self.assertEqual(write_box((iv(0, 10 ** 60),)), f"[0,{SIXTY_ONE}]")


class Trees(unittest.TestCase):
    def test_texts(self):
        matrix = ((num(1, 2), num(-3)), (num(0), num(7, 5)))
        for n, text, tree in (
            (1, "rest", REST), (2, "free 0", ("free", 0)), (1, "free 999999999", ("free", 999999999)),
            (1, "single 1/3", ("single", THIRD)), (2, "single 1/2 -3 0 7/5", ("single", matrix)),
            (1, "halve 0 free 0 single 1/3", TREE),
            (2, "halve 1 halve 0 rest free 1 single 1/2 -3 0 7/5", (
                "halve", 1, ("halve", 0, REST, ("free", 1)), ("single", matrix))),
            (4, "halve 3 rest halve 2 rest rest", ("halve", 3, REST, ("halve", 2, REST, REST))),
        ):
            self.assertEqual(write_tree(tree), text)
            self.assertEqual(read_tree(n, text), tree)

    def test_back_and_forth(self):
        maker = Maker(142)
        for _ in range(200):
            n = maker.random.randint(1, 4)
            tree = made_tree(maker, n, 5)
            text = write_tree(tree)
            self.assertEqual(text, slow_tree_text(tree))
            self.assertEqual(read_tree(n, text), tree)

    def test_other_numbers_of_variables(self):
        for n, m in itertools.permutations(range(1, 5), 2):
            with self.assertRaises(BadText):
                read_tree(m, write_tree(("single", Maker(143).matrix(n, n))))
        for n in range(1, 5):
            for k in range(6):
                text = f"halve {k} rest rest"
                if k < n:
                    self.assertEqual(read_tree(n, text), ("halve", k, REST, REST))
                else:
                    with self.assertRaises(BadText):
                        read_tree(n, text)

    def test_bent_ones(self):
        for n, text in ((1, "halve 0 free 0 single 1/3"), (2, "halve 1 rest single 1 -2/3 0 4")):
            for other in bent(text):
                try:
                    tree = read_tree(n, other)
                except BadText:
                    continue
                self.assertEqual(slow_tree_text(tree), other)

    def test_bad_ones(self):
        for text in (
            "", " ", "rest ", " rest", "rest\n", "Rest", "rests", "rest rest", "rest 0", "free", "free ", "free -1",
            "free +1", "free 01",
            "free 1/2", "free x", "free 0 0", "free  0", "single", "single 1/3 1/3", "single x", "single 2/4",
            "single 01", "halve",
            "halve 0", "halve 0 rest", "halve 0 rest rest rest", "halve rest rest", "halve 00 rest rest",
            "halve -0 rest rest",
            "halve 1 rest rest", "halve 0  rest rest", "halve 0 rest\nrest", "halve 0 (rest) (rest)", "none", "one", "over",
            "free \u0661", "free 1\u00b2", "halve 0 rest none",
        ):
            with self.assertRaises(BadText):
                read_tree(1, text)

    def test_indexes(self):
        self.assertEqual(read_tree(1, "free 123456789"), ("free", 123456789))
        for index in ("1000000000", "1234567890", "0000000000", "1" * 5000):
            with self.assertRaises(BadText):
                read_tree(1, f"free {index}")
            with self.assertRaises(BadText):
                read_tree(4, f"halve {index} rest rest")
        self.assertEqual(write_tree(("free", 10 ** 12)), "free 1000000000000")

    def test_figures(self):
        for x in (SIXTY, f"-{SIXTY}", f"1/{SIXTY}"):
            self.assertEqual(write_tree(read_tree(1, f"single {x}")), f"single {x}")
        for x in (SIXTY_ONE, f"-{SIXTY_ONE}", f"1/{SIXTY_ONE}", f"{SIXTY_ONE}/7", "7" * 5000):
            with self.assertRaises(BadText):
                read_tree(1, f"single {x}")
        self.assertEqual(write_tree(("single", (((10 ** 60, 1),),))), f"single {SIXTY_ONE}")

    def test_depths(self):
        for n, k in ((1, 0), (3, 2)):
            for make in (lambda v: ("halve", k, v or REST, REST), lambda v: ("halve", k, REST, v or REST)):
                deep = nested(40, make)
                self.assertEqual(read_tree(n, write_tree(deep)), deep)
                text = slow_tree_text(nested(41, make))
                with self.assertRaises(BadText):
                    read_tree(n, text)
        with self.assertRaises(BadText):
            read_tree(1, "halve 0 " * 5000 + "rest")


class Claims(unittest.TestCase):
    def test_texts(self):
        self.assertEqual(write_claim(TWO, box_of((0, 2)), TREE), CLAIM)
        self.assertEqual(read_claim(CLAIM), (TWO, box_of((0, 2)), TREE))
        system = system_of(2, "x^2 + y^2 - 2", "x - y")
        text = "variables 2\npolynomial x^2 + y^2 - 2\npolynomial x - y\nbox [0,2] [-1/2,2]\ntree halve 1 rest free 1\n"
        tree = ("halve", 1, REST, ("free", 1))
        box = box_of((0, 2), (Fraction(-1, 2), 2))
        self.assertEqual(write_claim(system, box, tree), text)
        self.assertEqual(read_claim(text), (system, box, tree))

    def test_back_and_forth(self):
        maker = Maker(144)
        for _ in range(80):
            n = maker.random.randint(1, 4)
            system = tuple(maker.polynomial(n, maker.random.randint(0, 4), 3) for _ in range(n))
            box, tree = maker.box(n), made_tree(maker, n, 3)
            text = write_claim(system, box, tree)
            lines = [f"variables {n}"] + ["polynomial " + write_polynomial(n, p) for p in system]
            self.assertEqual(text, "\n".join(lines + ["box " + write_box(box), "tree " + slow_tree_text(tree), ""]))
            found = read_claim(text)
            self.assertEqual(found, (system, box, tree))
            self.assertIs(type(found), tuple)

    def bad(self, text):
        for function in (read_claim, judged):
            with self.assertRaises(BadText):
                function(text)

    def test_lines_out_twice_or_exchanged(self):
        two = write_claim(system_of(2, "x + y", "x - y"), box_of((0, 1), (2, 3)), REST)
        for text in (CLAIM, two):
            lines = text.split("\n")[:-1]
            for at in range(len(lines)):
                self.bad("".join(line + "\n" for line in lines[:at] + lines[at + 1:]))
                self.bad("".join(line + "\n" for line in lines[:at + 1] + lines[at:]))
            for at in range(len(lines) - 1):
                turned = lines[:at] + [lines[at + 1], lines[at]] + lines[at + 2:]
                if not (lines[at].startswith("poly") and lines[at + 1].startswith("poly")):
                    self.bad("".join(line + "\n" for line in turned))
        # Only the two polynomials may be exchanged: this is another claim.
        lines = two.split("\n")
        lines[1], lines[2] = lines[2], lines[1]
        self.assertEqual(read_claim("\n".join(lines))[0], system_of(2, "x - y", "x + y"))

    def test_line_feeds(self):
        self.bad(CLAIM[:-1])
        self.bad(CLAIM + "\n")
        self.bad("\n" + CLAIM)
        self.bad(CLAIM + " ")
        self.bad(CLAIM + CLAIM)
        self.bad(CLAIM.replace("\n", "\r\n"))
        self.bad(CLAIM.replace("box", "\nbox"))
        self.bad("")
        self.bad("\n")

    def test_bent_ones(self):
        for other in bent(CLAIM):
            try:
                system, box, tree = read_claim(other)
            except BadText:
                continue
            self.assertEqual(write_claim(system, box, tree), other)

    def test_first_line(self):
        for n in ("0", "2", "5", "-1", "+1", "01", "1/1", "x", "", " 1", "1 ", "10", "\u0661"):
            self.bad(CLAIM.replace("variables 1", f"variables {n}"))
        self.bad(CLAIM.replace("variables 1", "variables"))
        self.bad(CLAIM.replace("variables 1", "Variables 1"))
        five = "variables 5\n" + "polynomial 0\n" * 5 + "box " + " ".join(["[0,1]"] * 5) + "\ntree rest\n"
        self.bad(five)
        four = "variables 4\n" + "polynomial 0\n" * 4 + "box " + " ".join(["[0,1]"] * 4) + "\ntree rest\n"
        self.assertEqual(read_claim(four), (((),) * 4, box_of((0, 1), (0, 1), (0, 1), (0, 1)), REST))

    def test_polynomials_in_their_own_text(self):
        for text in (
            "x^2-2", "-2 + x^2", "x*x - 2", "1*x^2 - 2", "x^2 - 2 + 0", "(x^2 - 2)", "x^2 - 4/2", "x^2 - 1 - 1",
            "x^2 + -2", "x^2 - 2 ",
            " x^2 - 2", "x^2  - 2", "x^1 - 2", "x^02 - 2", "y^2 - 2", "2x", "", "x^2 - x^2", "x^0", "-0", "x^13", "+x",
            "(x + 1)^2", f"{SIXTY_ONE}*x", f"x + 1/{SIXTY_ONE}", "9^12*9^12*9^12*9^12*9^12*9^12",
        ):
            self.bad(CLAIM.replace("x^2 - 2", text))
        self.bad(CLAIM.replace("x^2 - 2", "*".join(["9^12"] * 500)))
        self.bad(CLAIM.replace("x^2 - 2", "*".join(["1/9"] * 6000)))
        self.bad(CLAIM.replace("x^2 - 2", "((x + 1)^12)^12 - ((x - 1)^12)^12"))
        for text in ("0", "-x", "x^12", "1/2*x^3 - x + 7", f"{SIXTY}*x^2 - 1/{SIXTY}"):
            self.assertEqual(write_claim(*read_claim(CLAIM.replace("x^2 - 2", text))), CLAIM.replace("x^2 - 2", text))
        # What is written of greater polynomials is read by none.
        great = write_claim((uni(0, *[0] * 12, 1),), box_of((0, 1)), REST)
        self.assertIn("polynomial x^13\n", great)
        self.bad(great)
        great = write_claim((uni(10 ** 60),), box_of((0, 1)), REST)
        self.bad(great)

    def test_words(self):
        for old, new in (
            ("polynomial ", "polynomial"), ("polynomial ", "polynomial  "), ("box ", "box"), ("box ", "box  "),
            ("box ", "Box "),
            ("tree ", "tree"), ("tree ", "tree  "), ("tree ", "search "), ("variables ", "variables  "),
            ("polynomial ", "poly "),
        ):
            self.bad(CLAIM.replace(old, new))

    def test_errors(self):
        self.assertTrue(issubclass(BadText, RootfastError))


class Judging(unittest.TestCase):
    def test_right_ones(self):
        self.assertEqual(judged(CLAIM), (1, 0))
        self.assertEqual(judged(CLAIM.replace("halve 0 free 0 single 1/3", "rest")), (0, 1))
        self.assertEqual(judged("variables 1\npolynomial x^2 - 2\nbox [2,3]\ntree free 0\n"), (0, 0))
        self.assertEqual(judged("variables 1\npolynomial x^2 - 2\nbox [2,3]\ntree halve 0 rest free 0\n"), (0, 1))

    def test_wrong_ones(self):
        for tree in ("free 0", "single 1/3", "halve 0 free 0 single 0", "halve 0 single 1/3 free 0", "halve 0 free 1 single 1/3"):
            self.assertIsNone(judged(CLAIM.replace("halve 0 free 0 single 1/3", tree)))
        self.assertIsNone(judged(CLAIM.replace("[0,2]", "[0,3]")))
        self.assertIsNone(judged(CLAIM.replace("x^2 - 2", "x^2 - 4")))

    def test_same_zeros_count_once(self):
        system = system_of(2, "x^2 + y^2 - 2", "x - y")
        box = box_of((0, 2), (0, 2))
        tree = search(system, box, 6)
        self.assertEqual(len(told(box, tree)), 4)
        self.assertEqual(judged(write_claim(system, box, tree)), (1, 0))

    def test_searches(self):
        maker = Maker(145)
        for n, depth in ((1, 6), (2, 4), (3, 2), (4, 1)):
            for _ in range(12):
                system = tuple(maker.polynomial(n, 4, 2) for _ in range(n))
                box = box_of(*[(q(x) - 2, q(x) + 3) for x in maker.point(n)])
                tree = search(system, box, depth)
                expected = len(different(system, told(box, tree))), len(rest(box, tree))
                text = write_claim(system, box, tree)
                self.assertEqual(judged(text), expected)
                self.assertIs(type(judged(text)), tuple)
                other = system[1:] + system[:1]
                right = check_tree(other, box, tree)
                self.assertIs(judged(write_claim(other, box, tree)) is not None, right)


if __name__ == "__main__":
    unittest.main()

"""The examples that the document's interface prints, and those of README.md."""

import doctest
import pathlib
import unittest

from rootfast.bernstein import bernstein, halved
from rootfast.bounds import bounds, centered, natural
from rootfast.boxes import widened
from rootfast.claims import write_claim
from rootfast.combs import comb, variations
from rootfast.critical import gradient, shape_over
from rootfast.desk import run_desk
from rootfast.elimination import resultant
from rootfast.hunts import Hunt
from rootfast.intervals import power_of, rounded
from rootfast.least import least
from rootfast.matrices import inverse
from rootfast.multiple import deflated, multiplicity
from rootfast.numbers import number, over
from rootfast.papers import free_index, krawczyk, single_paper
from rootfast.paths import straight, track
from rootfast.plane import counted_zeros, frame, rational_roots
from rootfast.polynomials import moved, multiplied
from rootfast.real import count_roots, root_bound
from rootfast.roots import floor_of, roots_of, sign_at
from rootfast.signs import cells_that_meet, sign_table
from rootfast.single import parts
from rootfast.texts import read_polynomial, write_polynomial
from rootfast.trees import search
from rootfast.winding import walk, winding

SQUARE = ((((0,), (-2, 1)), ((2,), (1, 1))),)
CIRCLE = (((0, 0), (-2, 1)), ((0, 2), (1, 1)), ((2, 0), (1, 1)))
LINE = (((0, 1), (-1, 1)), ((1, 0), (1, 1)))


class Examples(unittest.TestCase):
    def test_readme(self):
        readme = pathlib.Path(__file__).resolve().parent.parent / "README.md"
        # A line that ends a block of code would be taken for what the example prints.
        text = readme.read_text().replace("```", "")
        test = doctest.DocTestParser().get_doctest(text, {}, "README.md", str(readme), 0)
        result = doctest.DocTestRunner().run(test)
        self.assertEqual(result.failed, 0)
        self.assertGreater(result.attempted, 0)

    def test_numbers(self):
        self.assertEqual([number(4, -6), over((1, 2), (-3, 4))], [(-2, 3), (-2, 3)])

    def test_intervals(self):
        self.assertEqual(power_of(((-1, 1), (2, 1)), 2), ((0, 1), (4, 1)))
        self.assertEqual(rounded(((1, 3), (2, 3)), 2), ((1, 4), (3, 4)))

    def test_polynomials(self):
        first, second = (((0,), (1, 1)), ((1,), (1, 1))), (((0,), (-1, 1)), ((1,), (1, 1)))
        self.assertEqual(multiplied(first, second), (((0,), (-1, 1)), ((2,), (1, 1))))
        self.assertEqual(moved(1, (((2,), (1, 1)),), ((3, 1),)), (((0,), (9, 1)), ((1,), (6, 1)), ((2,), (1, 1))))

    def test_matrices(self):
        self.assertEqual(inverse((((2, 1), (1, 1)), ((1, 1), (1, 1)))), (((1, 1), (-1, 1)), ((-1, 1), (2, 1))))

    def test_texts(self):
        text = write_polynomial(2, read_polynomial(2, "(x - y)^2 - 1/2*x"))
        self.assertEqual(text, "x^2 - 2*x*y - 1/2*x + y^2")
        self.assertEqual(read_polynomial(1, "-x^2 + 3"), (((0,), (3, 1)), ((2,), (-1, 1))))

    def test_single(self):
        p = (((0,), (-2, 1)), ((1,), (5, 1)), ((2,), (-4, 1)), ((3,), (1, 1)))
        self.assertEqual(
            parts(p), [(1, (((0,), (-2, 1)), ((1,), (1, 1)))), (2, (((0,), (-1, 1)), ((1,), (1, 1))))]
        )

    def test_real(self):
        two = (((0,), (-2, 1)), ((2,), (1, 1)))
        found = [count_roots(two, (-2, 1), (2, 1)), count_roots(two, (0, 1), (1, 1)), root_bound(two)]
        self.assertEqual(found, [2, 0, 3])

    def test_bernstein(self):
        found = [bernstein((((2,), (1, 1)),), (0, 1), (1, 1)), halved(((0, 1), (0, 1), (1, 1)))]
        self.assertEqual(
            found, [((0, 1), (0, 1), (1, 1)), (((0, 1), (0, 1), (1, 4)), ((1, 4), (1, 2), (1, 1)))]
        )

    def test_combs(self):
        two = (((0,), (-2, 1)), ((2,), (1, 1)))
        found = [variations(two, (-2, 1), (2, 1)), comb(two, (-2, 1), (2, 1), 1)]
        self.assertEqual(found, [2, ("halve", ("one",), ("one",))])

    def test_roots(self):
        two = (((0,), (-2, 1)), ((2,), (1, 1)))
        low, high = roots_of(two)
        found = [floor_of(low), floor_of(high), sign_at(two, high), sign_at((((0,), (-3, 2)), ((1,), (1, 1))), high)]
        self.assertEqual(found, [-2, 1, 0, -1])

    def test_boxes(self):
        self.assertEqual(widened((((0, 1), (1, 1)),)), (((-1, 2), (3, 2)),))

    def test_bounds(self):
        p = (((1,), (-1, 1)), ((2,), (1, 1)))
        box = (((0, 1), (1, 1)),)
        found = [natural(p, box), centered(p, box), bounds(p, box)]
        self.assertEqual(found, [((-1, 1), (1, 1)), ((-1, 2), (0, 1)), ((-1, 2), (0, 1))])

    def test_papers(self):
        found = [single_paper(SQUARE, (((1, 1), (2, 1)),)), krawczyk(SQUARE, (((1, 1), (2, 1)),), (((1, 3),),))]
        self.assertEqual(found, [(((1, 3),),), (((5, 4), (19, 12)),)])
        self.assertEqual(free_index(SQUARE, (((2, 1), (3, 1)),)), 0)

    def test_trees(self):
        self.assertEqual(search(SQUARE, (((0, 1), (2, 1)),), 1), ("halve", 0, ("free", 0), ("single", (((1, 3),),))))

    def test_hunts(self):
        hunt = Hunt(SQUARE, (((0, 1), (2, 1)),), 1)
        found = [hunt.work(""), hunt.work("1"), hunt.open_places(), hunt.text()]
        self.assertEqual(found, ["halve", "single", ["0"], "[0] open\n[1] single 1/3\n"])

    def test_paths(self):
        found = straight(1, ((((0,), (-1, 1)), ((1,), (1, 1))),), ((((0,), (-2, 1)), ((1,), (1, 1))),))
        family = ((((0, 0), (-1, 1)), ((0, 1), (-1, 1)), ((1, 0), (1, 1))),)
        self.assertEqual(found, family)
        first = ((0, 1), (1, 2), (((0, 1), (2, 1)),), (((1, 1),),))
        second = ((1, 2), (1, 1), (((1, 2), (5, 2)),), (((1, 1),),))
        self.assertEqual(track(1, family, (((0, 1), (2, 1)),), (((1, 1),),), 5), ("whole", (first, second)))

    def test_multiple(self):
        double = ((((2,), (1, 1)),),)
        found = [multiplicity(1, double, ((0, 1),), 4), deflated(1, double, ((0, 1),))]
        self.assertEqual(found, [2, ((((2,), (1, 1)),), (((1,), (2, 1)),))])

    def test_elimination(self):
        self.assertEqual(resultant(2, CIRCLE, LINE, 1), (((0,), (-2, 1)), ((2,), (2, 1))))

    def test_winding(self):
        plain = ((((1, 0), (1, 1)),), (((0, 1), (1, 1)),))
        found = walk(plain, (((-1, 1), (1, 1)), ((-1, 1), (1, 1))), 0)
        self.assertEqual(found, (("sign", 1, -1), ("sign", 0, 1), ("sign", 1, 1), ("sign", 0, -1)))
        self.assertEqual(winding(found), 1)

    def test_claims(self):
        text = write_claim(SQUARE, (((2, 1), (3, 1)),), ("free", 0))
        self.assertEqual(text, "variables 1\npolynomial x^2 - 2\nbox [2,3]\ntree free 0\n")

    def test_plane(self):
        zeros = [(((-1, 1), (-1, 1)), 1), (((1, 1), (1, 1)), 1)]
        found = [frame(CIRCLE, LINE), counted_zeros(CIRCLE, LINE)]
        self.assertEqual(found, [(((-2, 1), (2, 1)), ((-2, 1), (2, 1))), zeros])
        self.assertEqual(rational_roots((((0,), (-1, 1)), ((1,), (1, 1)), ((2,), (2, 1)))), [(-1, 1), (1, 2)])

    def test_least(self):
        found = least((((1,), (-1, 1)), ((2,), (1, 1))), (((0, 1), (1, 1)),), (1, 4), 1)
        self.assertEqual(found, ((-7, 16), ((1, 4),), ("halve", 0, ("over",), ("over",))))

    def test_critical(self):
        bowl = (((0, 2), (1, 1)), ((2, 0), (1, 1)))
        found = [gradient(2, bowl), shape_over(bowl, (((-1, 1), (1, 1)), ((-1, 1), (1, 1))))]
        self.assertEqual(found, [((((1, 0), (2, 1)),), (((0, 1), (2, 1)),)), "least"])

    def test_signs(self):
        two = (((0,), (-2, 1)), ((2,), (1, 1)))
        one = (((0,), (-1, 1)), ((1,), (1, 1)))
        found = [sign_table([two]), cells_that_meet([(two, "<"), (one, ">=")])]
        self.assertEqual(found, [[(1,), (0,), (-1,), (0,), (1,)], [3, 4]])

    def test_desk(self):
        text = "polynomial x^2 - 2\nbox [0,2]\ntree 1\ncount 1\nroots\nat 1/2\nwinding 3\n"
        report = "halve 0 free 0 single 1/3\ntold 1 rest 0\nroots 1 1\nvalues -7/4\nnot now\n"
        self.assertEqual(run_desk(text), report)


if __name__ == "__main__":
    unittest.main()

"""Promise [18.1]: the desk."""

import itertools
import re
import unittest
from fractions import Fraction

from helpers import Maker, box_of, q
from rootfast.claims import read_box, write_box, write_tree
from rootfast.critical import shape_over
from rootfast.desk import run_desk
from rootfast.elimination import resultant
from rootfast.errors import BadLine, RootfastError
from rootfast.least import least
from rootfast.multiple import multiplicity
from rootfast.numbers import read_number, write_number
from rootfast.plane import counted_zeros, frame, is_fair
from rootfast.polynomials import value_at
from rootfast.real import isolated
from rootfast.texts import read_polynomial, write_polynomial
from rootfast.trees import different, rest, search, told
from rootfast.winding import walk, winding

SIXTY = "9" * 60
SIXTY_ONE = "1" + "0" * 60
LATE = "not now\n"

# What begins each desk for n variables: all that is needed for all commands that n allows.
ONE = "polynomial x^2 - 2\nbox [0,2]\n"
PAIR = "variables 2\npolynomial x^2 + y^2 - 2\npolynomial x - y\nbox [0,2] [0,2]\n"
THREE = "variables 3\npolynomial x^2 + y^2 + z^2 - x\nbox [-1,1] [-1,1] [0,1]\n"
SYSTEM_3 = "variables 3\npolynomial x^2 - y\npolynomial y - z\npolynomial x + z - 2\nbox [-1,2] [0,2] [0,3]\n"
SYSTEM_4 = "variables 4\npolynomial x\npolynomial y - 1\npolynomial z - x\npolynomial u + 2\nbox [-1,1] [0,2] [-1,1] [-3,0]\n"
SHOWN_4 = "x\ny - 1\n-x + z\nu + 2\n"


class Slow:
    """A desk that looks up each command word by word."""

    def __init__(self):
        self.begin(1)

    def begin(self, n):
        self.n, self.system, self.box = n, (), None

    def report(self, text):
        return "".join(line + "\n" for row in text.split("\n") if row and row[0] != "#" for line in self.done(row))

    def done(self, row):
        word, _, behind = row.partition(" ")
        rest_of_row = behind.split(" ")
        if word == "variables":
            self.begin(int(behind))
        elif word == "polynomial":
            self.system += (read_polynomial(self.n, behind),)
        elif word == "box":
            self.box = read_box(self.n, behind)
        else:
            found = getattr(self, "tell_" + word)(*rest_of_row) if behind else getattr(self, "tell_" + word)()
            return ["not now"] if found is None else found
        return []

    def square(self):
        return len(self.system) == self.n and self.box is not None

    def tell_show(self):
        return [write_polynomial(self.n, p) for p in self.system]

    def tell_at(self, *words):
        point = tuple(read_number(word) for word in words)
        return [" ".join(["values"] + [write_number(value_at(p, point)) for p in self.system])]

    def tell_roots(self):
        if self.n == 1 and len(self.system) == 1 and self.system[0]:
            return [" ".join(["roots"] + [str(k) for _, k in isolated(self.system[0])])]

    def tell_tree(self, depth):
        if self.square():
            return [write_tree(search(self.system, self.box, int(depth)))]

    def tell_count(self, depth):
        if self.square():
            tree = search(self.system, self.box, int(depth))
            zeros = different(self.system, told(self.box, tree))
            return [f"told {len(zeros)} rest {len(rest(self.box, tree))}"]

    def tell_winding(self, depth):
        if self.n == 2 and self.square() and all(low != high for low, high in self.box):
            found = walk(self.system, self.box, int(depth))
            return ["no walk" if found is None else f"winding {winding(found)}"]

    def tell_multiplicity(self, most, *words):
        if self.n < 4 and self.system:
            k = multiplicity(self.n, self.system, tuple(read_number(word) for word in words), int(most))
            return ["no multiplicity" if k is None else f"multiplicity {k}"]

    def tell_resultant(self):
        if self.n == 2 and len(self.system) == 2:
            return [write_polynomial(1, resultant(2, *self.system, 1))]

    def tell_frame(self):
        if self.n == 2 and len(self.system) == 2:
            return ["frame " + write_box(frame(*self.system)) if is_fair(*self.system) else "not fair"]

    def tell_rational(self):
        if self.n == 2 and len(self.system) == 2:
            if not is_fair(*self.system):
                return ["not fair"]
            return [f"zero {q(x)} {q(y)} {k}" for (x, y), k in counted_zeros(*self.system)]

    def tell_least(self, gap, depth):
        if self.n < 4 and len(self.system) == 1 and self.box is not None:
            paper = least(self.system[0], self.box, read_number(gap), int(depth))
            if paper is None:
                return ["no paper"]
            return [f"least from {q(paper[0])} to {q(value_at(self.system[0], paper[1]))}"]

    def tell_shape(self):
        if self.n < 4 and len(self.system) == 1 and self.box is not None:
            return [shape_over(self.system[0], self.box)]


class Desk(unittest.TestCase):
    def check(self, text, expected):
        self.assertEqual(run_desk(text), expected, text)

    def bad(self, text, line=None):
        """The last line of a text, or the told one, is no command."""
        with self.assertRaises(BadLine) as caught:
            run_desk(text)
        self.assertEqual(caught.exception.line, text.count("\n") + 1 if line is None else line, text)
        self.assertIs(type(caught.exception.line), int)

    def bad_all(self, start, *lines):
        for line in lines:
            self.bad(start + line)


class Lines(Desk):
    def test_nothing(self):
        for text in ("", "\n", "\n\n\n", "#", "# show\n", "#show", "##\n#\n\n", "variables 3", "polynomial x", "box [0,1]\n"):
            self.check(text, "")

    def test_empty_lines_and_remarks(self):
        self.check("\n# a remark\npolynomial x\n\n#show\nshow\n\n", "x\n")
        self.check("#polynomial x\nshow", "")
        self.bad(" # x")
        self.bad("show # x")
        self.bad("polynomial x # x")

    def test_last_line_feed(self):
        self.check("polynomial x\nshow", "x\n")
        self.check("polynomial x\nshow\n", "x\n")
        self.check("polynomial x\nshow\nshow", "x\nx\n")

    def test_no_command(self):
        self.bad_all(
            "", "x", "Show", "SHOW", "shows", "sho", " ", "  ", "\t", "show\t", "show\r", "help", "0", "polynomials x",
            "root",
        )
        self.bad_all(
            "", " show", "show ", " roots", "at  0", "at 0 ", " at 0", "tree 1 ", "tree  1", "box  [0,1]", "box [0,1] ",
            "variables 1 ",
        )
        self.bad_all("variables 2\n", "at 0  0", "box [0,1]  [0,1]", "multiplicity 1  0 0", "multiplicity  1 0 0")
        self.bad_all(
            "", "least  1 1", "least 1  1", "winding  1", "count 1 ", "frame ", "rational ", "resultant ", "shape ",
            "show show",
        )

    def test_number_of_the_line(self):
        self.bad("bad", 1)
        self.bad("bad\n", 1)
        self.bad("\n\nbad\nworse", 3)
        self.bad("# x\n\npolynomial x\nshow\nroots 1\nbad\n", 5)
        self.bad("polynomial x\nbox [0,1]\ntree 13\n", 3)
        self.bad("variables 2\nat 1\nshow", 2)
        self.bad("show\n\n#\n\n\nat", 6)
        # Nothing that an earlier line does hides it.
        self.bad(ONE + "tree 12\nroots\nwinding 1\nbad", 6)
        self.assertTrue(issubclass(BadLine, RootfastError))

    def test_new_beginnings(self):
        self.check("polynomial x\nbox [0,1]\nvariables 1\nshow\ntree 0\nat 3", LATE + "values\n")
        self.check("polynomial x - 1\nbox [0,2]\nvariables 1\npolynomial x - 1\ntree 0", LATE)
        self.check("variables 2\npolynomial y\nvariables 2\npolynomial x\nshow\n", "x\n")
        self.check("variables 4\nvariables 3\npolynomial z\nshow\nat 1 2 3", "z\nvalues 3\n")
        self.bad("variables 2\npolynomial y\nvariables 1\npolynomial y")
        self.bad("variables 2\nvariables 1\nat 1 2")


NUMBER = "-?(?:0|[1-9][0-9]{0,59})(?:/[1-9][0-9]{0,59})?"
DEPTH = "(?:[0-9]|1[0-2])"
PLANE = f"{NUMBER} {NUMBER}"
# The commands for two variables, apart from formulas and from what fractions and intervals must fulfil besides.
FORM = re.compile("|".join([
    "variables [1-4]", "polynomial .*", f"box \\[{NUMBER},{NUMBER}\\] \\[{NUMBER},{NUMBER}\\]", "show", f"at {PLANE}", "roots",
    f"tree {DEPTH}", f"count {DEPTH}", f"winding {DEPTH}", f"multiplicity [0-6] {PLANE}", "resultant", "frame", "rational",
    f"least {NUMBER} {DEPTH}", "shape", "#.*", "",
]))
LINES = (
    "variables 2", "box [0,1] [-1/2,3]", "show", "at 1/2 -3", "roots", "tree 1", "count 12", "winding 0",
    "multiplicity 6 0 -7/3", "resultant", "frame", "rational", "least 1/2 10", "shape", "# x",
)


def is_command(line):
    """True if a line without a formula is a command for two variables, looked at in another way."""
    if not FORM.fullmatch(line):
        return False
    if line[:1] == "#":
        return True
    words = [word for word in re.split("[ ,\\[\\]]", line)[1:] if word]
    # A fraction is its own text, 0 has no sign, and no whole number is a fraction.
    if any(str(Fraction(word)) != word for word in words):
        return False
    numbers = [Fraction(word) for word in words]
    if line.startswith("box"):
        return numbers[0] <= numbers[1] and numbers[2] <= numbers[3]
    return not line.startswith("least") or numbers[0] >= 0


class Bent(Desk):
    def test_bent_lines(self):
        count = 0
        for line in LINES:
            for at, sign in itertools.product(range(len(line) + 1), " -+/01237,[]x#_.\t\r"):
                for bent in (line[:at] + sign + line[at:], line[:at] + sign + line[at + 1:], line[:at] + line[at + 1:]):
                    text = "variables 2\n" + bent
                    if is_command(bent):
                        count += 1
                        self.check(text, Slow().report(text))
                    else:
                        self.bad(text)
        self.assertGreater(count, 100)


class Setting(Desk):
    def test_variables(self):
        for n, name in enumerate("xyzu"):
            self.check(f"variables {n + 1}\npolynomial {name}\nshow", name + "\n")
            if n:
                self.bad(f"variables {n}\npolynomial {name}")
        self.bad("polynomial y")
        self.bad_all(
            "", "variables", "variables ", "variables 0", "variables 5", "variables -1", "variables +1", "variables 01",
            "variables 1 1",
        )
        self.bad_all(
            "", "variables x", "variables 1/1", "variables 2.0", "variables 10", f"variables {SIXTY}",
            "variables " + "1" * 5000,
        )

    def test_polynomials(self):
        for text in ("x", "-x^2 + 3", "(x - 1)*(x + 1)", "1/2*x^12", "0", "x^2+1", "-(x - 1)^3", SIXTY, f"1/{SIXTY}*x"):
            self.check(f"polynomial {text}\nshow", write_polynomial(1, read_polynomial(1, text)) + "\n")
        self.check("polynomial x\npolynomial x\npolynomial 1 - x\nshow", "x\nx\n-x + 1\n")
        self.bad_all(
            "", "polynomial", "polynomial ", "polynomial  x", "polynomial x ", "polynomial 2x", "polynomial x^13",
            "polynomial x^-1", "polynomial (x",
            "polynomial x  + 1", "polynomial y", f"polynomial {SIXTY_ONE}", f"polynomial 1/{SIXTY_ONE}*x",
            "polynomial 2/4", "polynomial 07", "polynomial +x",
            "polynomial " + "(" * 31 + "x" + ")" * 31,
        )
        self.check("polynomial " + "(" * 30 + "x" + ")" * 30 + "\nshow", "x\n")

    def test_boxes(self):
        self.check(f"polynomial x\nbox [0,1]\nbox [-{SIXTY},1/{SIXTY}]\nbox [5,6]\ntree 0", "free 0\n")
        self.bad_all(
            "", "box", "box ", "box [1,0]", "box [0,1] [0,1]", "box [0,1", "box 0 1", "box [0, 1]", "box [2/4,1]",
            "box [0,x]", "box (0,1)",
        )
        self.bad_all(
            "", f"box [0,{SIXTY_ONE}]", f"box [1/{SIXTY_ONE},1]", "box [-0,1]", "box [+1,2]", "box [00,1]",
            "box  [0,1]",
        )
        self.bad_all("variables 2\n", "box [0,1]", "box [0,1] [0,1] [0,1]", "box [0,1][0,1]", "box [0,1], [0,1]")
        self.bad_all("variables 4\n", "box [0,1] [0,1] [0,1]")


class Telling(Desk):
    def test_show(self):
        self.check("show", "")
        self.check("box [0,1]\nshow", "")
        self.check(PAIR + "show", "x^2 + y^2 - 2\nx - y\n")
        self.check(SYSTEM_4 + "show", SHOWN_4)
        self.bad_all(PAIR, "show 1", "show x")

    def test_at(self):
        self.check(ONE + "at 1/2", "values -7/4\n")
        self.check("at 0", "values\n")
        self.check("variables 3\nat 0 -1/2 7", "values\n")
        self.check(PAIR + "at 1 -1/3", "values -8/9 4/3\n")
        self.check(SYSTEM_4 + "at 1 2 3 4", "values 1 1 2 6\n")
        self.check(f"polynomial x\nat {SIXTY}\nat -1/{SIXTY}", f"values {SIXTY}\nvalues -1/{SIXTY}\n")
        self.bad_all(
            ONE, "at", "at ", "at x", "at 1 2", "at 2/4", "at +1", "at -0", "at 01", "at 1.5", f"at {SIXTY_ONE}",
            f"at 1/{SIXTY_ONE}",
        )
        self.bad_all(PAIR, "at", "at 1", "at 1 2 3", "at 1,2", "at 1 x", "at 1 2/4")

    def test_roots(self):
        self.check(ONE + "roots", "roots 1 1\n")
        self.check("polynomial (x - 1)^3*(x + 1)^2*(x^2 + 1)*x\nroots", "roots 2 1 3\n")
        self.check("polynomial x^2 + 1\nroots\nvariables 1\npolynomial -7\nroots", "roots\nroots\n")
        self.check("roots\npolynomial x\npolynomial x\nroots", LATE * 2)
        self.check("polynomial 0\nroots\nvariables 1\npolynomial x - x\nroots", LATE * 2)
        self.check("variables 2\npolynomial x\nroots\n" + SYSTEM_4 + "roots", LATE * 2)
        self.bad_all(ONE, "roots 1", "roots x", "roots ")

    def test_tree(self):
        self.check(ONE + "tree 0\ntree 1", "rest\nhalve 0 free 0 single 1/3\n")
        self.check(PAIR + "tree 1", "halve 0 rest rest\n")
        self.check(SYSTEM_4 + "tree 0", "single 1 0 0 0 0 1 0 0 1 0 1 0 0 0 0 1\n")
        self.check("polynomial x\ntree 0\nbox [1,2]\ntree 0\npolynomial x\ntree 0", LATE + "free 0\n" + LATE)
        self.check("box [0,1]\ntree 12\nvariables 2\npolynomial x\nbox [1,2] [1,2]\ntree 0\n", LATE * 2)
        self.check("polynomial x^2\nbox [-1,1]\ntree 12", Slow().report("polynomial x^2\nbox [-1,1]\ntree 12"))
        self.bad_all(
            ONE, "tree", "tree ", "tree 13", "tree -1", "tree 01", "tree +1", "tree 1 1", "tree x", "tree 1/2",
            "tree 100", f"tree {SIXTY}", "tree 00",
        )

    def test_count(self):
        self.check(ONE + "count 0\ncount 1", "told 0 rest 1\ntold 1 rest 0\n")
        # The zero is told four times.
        self.check(PAIR + "count 6", "told 1 rest 0\n")
        self.check(SYSTEM_4 + "count 0", "told 1 rest 0\n")
        self.check("polynomial x^3 - x\nbox [-2,2]\ncount 12", "told 3 rest 0\n")
        self.check("count 1\npolynomial x\ncount 1\nvariables 2\nbox [0,1] [0,1]\ncount 1", LATE * 3)
        self.bad_all(ONE, "count", "count 13", "count -1", "count 007", "count 1 2", "count x")

    def test_winding(self):
        plain = "variables 2\npolynomial x\npolynomial y\n"
        self.check(plain + "box [-1,1] [-1,1]\nwinding 0", "winding 1\n")
        self.check(plain + "box [1,2] [1,2]\nwinding 12", "winding 0\n")
        self.check("variables 2\npolynomial y\npolynomial x\nbox [-1,1] [-1,1]\nwinding 0", "winding -1\n")
        self.check(
            "variables 2\npolynomial x^2 - y^2\npolynomial 2*x*y\nbox [-1,1] [-1,1]\nwinding 0\nwinding 5",
            "no walk\nwinding 2\n",
        )
        self.check(plain + "box [0,1] [-1,1]\nwinding 12", "no walk\n")
        self.check(plain + "winding 1\nbox [0,0] [1,2]\nwinding 1\nbox [0,1] [2,2]\nwinding 1", LATE * 3)
        self.check(plain + "box [-1,1] [-1,1]\npolynomial x\nwinding 1", LATE)
        self.check("variables 2\nbox [-1,1] [-1,1]\npolynomial x\nwinding 1", LATE)
        self.check(ONE + "winding 3\n" + SYSTEM_3 + "winding 12", LATE * 2)
        self.bad_all(PAIR, "winding", "winding 13", "winding -1", "winding 1 1", "winding 01", "winding x")

    def test_multiplicity(self):
        self.check("polynomial x^3*(x - 1)\nmultiplicity 2 0\nmultiplicity 1 0\nmultiplicity 0 1\nmultiplicity 0 5",
                   "multiplicity 3\nno multiplicity\nmultiplicity 1\nmultiplicity 0\n")
        self.check(PAIR + "multiplicity 6 1 1\nmultiplicity 6 1 -1", "multiplicity 1\nmultiplicity 0\n")
        self.check("variables 3\npolynomial x^2\npolynomial y^2\npolynomial z\nmultiplicity 6 0 0 0", "multiplicity 4\n")
        self.check(
            "variables 2\npolynomial x\nmultiplicity 6 0 0\npolynomial y\nmultiplicity 6 0 0",
            "no multiplicity\nmultiplicity 1\n",
        )
        self.check("multiplicity 1 0\nvariables 3\nmultiplicity 1 0 0 0\n" + SYSTEM_4 + "multiplicity 1 0 0 0 0", LATE * 3)
        self.bad_all(
            "polynomial x\n", "multiplicity", "multiplicity 1", "multiplicity 7 0", "multiplicity -1 0",
            "multiplicity 1 0 0", "multiplicity 01 0",
        )
        self.bad_all(
            "polynomial x\n", "multiplicity x 0", "multiplicity 1 x", "multiplicity 1/2 0",
            f"multiplicity 1 {SIXTY_ONE}", "multiplicity 1 2/4",
        )
        self.bad_all(SYSTEM_4, "multiplicity 1 0 0 0", "multiplicity 7 0 0 0 0", "multiplicity 1 0 0 0 0 0")
        self.check(f"polynomial x\nmultiplicity 6 {SIXTY}", "multiplicity 0\n")

    def test_resultant(self):
        self.check(PAIR + "resultant", "2*x^2 - 2\n")
        self.check("variables 2\npolynomial x - y\npolynomial x - y\nresultant", "0\n")
        self.check("variables 2\npolynomial x^2 - y\npolynomial x - y^2\nresultant", "-x^4 + x\n")
        self.check(
            "variables 2\npolynomial x\nresultant\n" + PAIR + "polynomial x\nresultant\n" + SYSTEM_3 + "resultant",
            LATE * 3,
        )
        self.check("resultant\npolynomial x\npolynomial x + 1\nresultant", LATE * 2)
        self.check("variables 3\npolynomial x\npolynomial x + 1\nresultant", LATE)
        self.bad_all(PAIR, "resultant 1", "resultant y", "resultant ")

    def test_frame(self):
        self.check(PAIR + "frame", "frame [-2,2] [-2,2]\n")
        for pair in ("polynomial x\npolynomial y\n", "polynomial x - y\npolynomial x - y\n", "polynomial x*y\npolynomial x - y\n"):
            self.check("variables 2\n" + pair + "frame", "not fair\n")
        self.check("variables 2\npolynomial x\nframe\n" + PAIR + "polynomial x\nframe\n" + SYSTEM_3 + "frame\n", LATE * 3)
        self.check("frame\npolynomial x\npolynomial x\nframe", LATE * 2)
        self.bad_all(PAIR, "frame 1", "frame x", "frames")

    def test_rational(self):
        self.check(PAIR + "rational", "zero -1 -1 1\nzero 1 1 1\n")
        self.check("variables 2\npolynomial 2*x + y - 2\npolynomial (x - y)^2\nrational", "zero 2/3 2/3 2\n")
        self.check("variables 2\npolynomial x^2 + y^2 - 1\npolynomial x - y\nrational\nshow", "x^2 + y^2 - 1\nx - y\n")
        for pair in ("polynomial x\npolynomial y\n", "polynomial x - y\npolynomial x - y\n", "polynomial x*y\npolynomial x - y\n"):
            self.check("variables 2\n" + pair + "rational", "not fair\n")
        self.check(
            "variables 2\npolynomial x\nrational\n" + PAIR + "polynomial x\nrational\n" + SYSTEM_3 + "rational",
            LATE * 3,
        )
        self.check("rational\npolynomial x\npolynomial x\nrational", LATE * 2)
        self.bad_all(PAIR, "rational 1", "rational x", "rational ")

    def test_least(self):
        self.check("polynomial x^2 - x\nbox [0,1]\nleast 1/4 1\nleast 1/5 0\nleast 0 0\nleast 1/4 0",
                   "least from -7/16 to -3/16\nno paper\nno paper\nleast from -1/2 to -1/4\n")
        self.check(THREE + "least 100 2", Slow().report(THREE + "least 100 2"))
        self.check("polynomial 5\nbox [2,2]\nleast 0 12", "least from 5 to 5\n")
        self.check("polynomial x\nleast 1 1\nbox [0,1]\npolynomial x\nleast 1 1\nvariables 1\nbox [0,1]\nleast 1 1", LATE * 3)
        self.check("variables 4\npolynomial x\nbox [0,1] [0,1] [0,1] [0,1]\nleast 1 1", LATE)
        self.bad_all(
            ONE, "least", "least 1", "least 1 1 1", "least -1 1", "least -1/2 1", "least 1 13", "least 1 -1",
            "least 1 01", "least x 1", "least 1 x",
        )
        self.bad_all(
            ONE, "least 2/4 1", "least -0 1", "least 1 1/2", f"least {SIXTY_ONE} 1", "least 01 1",
            f"least 1/{SIXTY_ONE} 1",
        )
        self.check(
            f"polynomial x\nbox [0,0]\nleast {SIXTY} 0\nleast 1/{SIXTY} 1",
            f"least from -{SIXTY} to 0\nleast from -1/{SIXTY} to 0\n",
        )

    def test_shape(self):
        for n, text, box, word in (
            (1, "x^2", "[-1,1]", "least"), (1, "-x^2", "[-1,1]", "greatest"), (2, "x*y", "[-1,1] [-1,1]", "saddle"),
            (2, "x^2", "[-1,1] [-1,1]", "unclear"), (3, "x^2 + y^2 + z^2", "[-1,1] [-1,1] [-1,1]", "least"),
        ):
            self.check(f"variables {n}\npolynomial {text}\nbox {box}\nshape", word + "\n")
        self.check("polynomial x\nshape\nbox [0,1]\npolynomial x\nshape\nvariables 1\nbox [0,1]\nshape", LATE * 3)
        self.check("variables 4\npolynomial x\nbox [0,1] [0,1] [0,1] [0,1]\nshape", LATE)
        self.bad_all(ONE, "shape 1", "shape x", "shape ")

    def test_one_report(self):
        text = PAIR + "show\nat 1 1\nroots\ncount 3\nwinding 7\nmultiplicity 3 1 1\nresultant\nframe\nrational\nleast 1 1\nshape\n" + ONE + "show"
        self.bad(text, 17)
        text = text.replace(ONE, "variables 1\n" + ONE)
        self.check(text, Slow().report(text))

    def test_beside_the_functions(self):
        maker = Maker(191)
        for _ in range(60):
            n = maker.random.randint(1, 4)
            lines = [f"variables {n}"]
            for _ in range(maker.random.choice((n, n, 1, 2, 3))):
                lines.append("polynomial " + write_polynomial(n, maker.polynomial(n, 3, 2)))
            if maker.random.randint(0, 4):
                box = box_of(*[(q(x), q(x) + maker.random.randint(0, 3)) for x in maker.point(n)])
                lines.append("box " + write_box(box))
            point = " ".join(write_number(x) for x in maker.point(n))
            depth = {1: 5, 2: 3, 3: 1, 4: 0}[n]
            lines += [
                "show", "at " + point, "roots", f"tree {depth}", f"count {depth}", "winding 5", "multiplicity 2 " + point,
                "multiplicity 3" + " 0" * n, "resultant", "frame", "rational",
                f"least {Fraction(maker.random.randint(0, 30), 7)} {depth}", "shape",
            ]
            text = "\n".join(lines)
            self.check(text, Slow().report(text))


if __name__ == "__main__":
    unittest.main()

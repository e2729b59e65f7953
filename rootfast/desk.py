"""A desk: a text with a command in each line is executed, and a report comes back."""

from rootfast.claims import read_box, read_index, write_box, write_tree
from rootfast.critical import shape_over
from rootfast.elimination import resultant
from rootfast.errors import BadLine, BadText
from rootfast.least import least, least_between
from rootfast.multiple import multiplicity
from rootfast.numbers import read_number, write_number
from rootfast.plane import counted_zeros, frame, is_fair
from rootfast.real import isolated
from rootfast.systems import values_at
from rootfast.texts import read_polynomial, write_polynomial
from rootfast.trees import search, told_and_rest
from rootfast.winding import walk, winding

_MOST_VARIABLES = 4
_MOST_DEPTH = 12
_MOST_DEGREE = 6


def run_desk(text):
    """Execute the commands of a text, and return their report."""
    desk = Desk()
    lines = []
    for word, values in _commands(text):
        action = _ACTIONS[word]
        found = action(desk, values)
        lines.extend(["not now"] if found is None else found)
    return "".join([line + "\n" for line in lines])


class Desk:
    """What the commands so far have set: the number of variables, the polynomials and the box."""

    def __init__(self):
        self.n = 1
        self.polynomials = ()
        self.box = None

    def is_square(self):
        """True if there are as many polynomials as variables, and a box."""
        return len(self.polynomials) == self.n and self.box is not None

    def is_pair(self):
        """True if there are two polynomials in two variables."""
        return self.n == 2 and len(self.polynomials) == 2

    def is_one_over_box(self):
        """True if there are a box and one polynomial, in at most three variables."""
        return self.n < 4 and len(self.polynomials) == 1 and self.box is not None


def _commands(text):
    """The list of the pairs of the first word of each command and the tuple of its values."""
    found = []
    n = 1
    for k, line in enumerate(text.split("\n")):
        if line and not line.startswith("#"):
            try:
                word, values = _command(n, line)
            except BadText:
                raise BadLine(k + 1)
            if word == "variables":
                n = values[0]
            found.append((word, values))
    return found


def _command(n, line):
    words = line.split(" ")
    if words[0] not in _FORMS:
        raise BadText("no command has this name")
    form = _FORMS[words[0]]
    return words[0], form(n, words[1:])


# What stands behind the first word of a command in n variables: each function takes the list of these words,
# and returns the tuple of what they stand for.


def _read_nothing(n, words):
    _refuse_other_number(words, 0)
    return ()


def _read_variables(n, words):
    _refuse_other_number(words, 1)
    return (_integer(words[0], 1, _MOST_VARIABLES),)


def _read_formula(n, words):
    return (read_polynomial(n, " ".join(words)),)


def _read_intervals(n, words):
    return (read_box(n, " ".join(words)),)


def _read_point(n, words):
    _refuse_other_number(words, n)
    return (tuple([read_number(word) for word in words]),)


def _read_depth(n, words):
    _refuse_other_number(words, 1)
    return (_integer(words[0], 0, _MOST_DEPTH),)


def _read_degree_and_point(n, words):
    _refuse_other_number(words, n + 1)
    return (_integer(words[0], 0, _MOST_DEGREE),) + _read_point(n, words[1:])


def _read_gap_and_depth(n, words):
    _refuse_other_number(words, 2)
    gap = read_number(words[0])
    if gap[0] < 0:
        raise BadText("a gap is less than 0")
    return (gap, _integer(words[1], 0, _MOST_DEPTH))


def _refuse_other_number(words, many):
    if len(words) != many:
        raise BadText("a command has another number of words")


def _integer(text, low, high):
    """The integer from low to high that is written in decimal form."""
    found = read_index(text)
    if not low <= found <= high:
        raise BadText("an integer is out of its range")
    return found


_FORMS = {
    "variables": _read_variables,
    "polynomial": _read_formula,
    "box": _read_intervals,
    "show": _read_nothing,
    "at": _read_point,
    "roots": _read_nothing,
    "tree": _read_depth,
    "count": _read_depth,
    "winding": _read_depth,
    "multiplicity": _read_degree_and_point,
    "resultant": _read_nothing,
    "frame": _read_nothing,
    "rational": _read_nothing,
    "least": _read_gap_and_depth,
    "shape": _read_nothing,
}

# What is done for a command: each function takes the desk and the values that were read, and returns the list
# of the lines to be reported, or None if the desk is not ready for it.


def _begin(desk, values):
    desk.n = values[0]
    desk.polynomials = ()
    desk.box = None
    return []


def _append_polynomial(desk, values):
    desk.polynomials = desk.polynomials + values
    return []


def _set_box(desk, values):
    desk.box = values[0]
    return []


def _show(desk, values):
    return [write_polynomial(desk.n, p) for p in desk.polynomials]


def _tell_values(desk, values):
    return [" ".join(["values"] + [write_number(x) for x in values_at(desk.polynomials, values[0])])]


def _tell_roots(desk, values):
    if desk.n != 1 or len(desk.polynomials) != 1 or not desk.polynomials[0]:
        return None
    return [" ".join(["roots"] + [str(k) for _, k in isolated(desk.polynomials[0])])]


def _tell_tree(desk, values):
    if not desk.is_square():
        return None
    return [write_tree(search(desk.polynomials, desk.box, values[0]))]


def _tell_count(desk, values):
    if not desk.is_square():
        return None
    tree = search(desk.polynomials, desk.box, values[0])
    many, left = told_and_rest(desk.polynomials, desk.box, tree)
    return [f"told {many} rest {left}"]


def _tell_winding(desk, values):
    if desk.n != 2 or not desk.is_square() or not all([low != high for low, high in desk.box]):
        return None
    found = walk(desk.polynomials, desk.box, values[0])
    return ["no walk" if found is None else f"winding {winding(found)}"]


def _tell_multiplicity(desk, values):
    if desk.n > 3 or not desk.polynomials:
        return None
    most, point = values
    found = multiplicity(desk.n, desk.polynomials, point, most)
    return ["no multiplicity" if found is None else f"multiplicity {found}"]


def _tell_resultant(desk, values):
    if not desk.is_pair():
        return None
    p, q = desk.polynomials
    return [write_polynomial(1, resultant(2, p, q, 1))]


def _tell_frame(desk, values):
    if not desk.is_pair():
        return None
    p, q = desk.polynomials
    return ["frame " + write_box(frame(p, q)) if is_fair(p, q) else "not fair"]


def _tell_rational(desk, values):
    if not desk.is_pair():
        return None
    p, q = desk.polynomials
    if not is_fair(p, q):
        return ["not fair"]
    return [f"zero {write_number(x)} {write_number(y)} {k}" for (x, y), k in counted_zeros(p, q)]


def _tell_least(desk, values):
    if not desk.is_one_over_box():
        return None
    gap, depth = values
    paper = least(desk.polynomials[0], desk.box, gap, depth)
    if paper is None:
        return ["no paper"]
    low, high = least_between(desk.polynomials[0], paper)
    return [f"least from {write_number(low)} to {write_number(high)}"]


def _tell_shape(desk, values):
    if not desk.is_one_over_box():
        return None
    return [shape_over(desk.polynomials[0], desk.box)]


_ACTIONS = {
    "variables": _begin,
    "polynomial": _append_polynomial,
    "box": _set_box,
    "show": _show,
    "at": _tell_values,
    "roots": _tell_roots,
    "tree": _tell_tree,
    "count": _tell_count,
    "winding": _tell_winding,
    "multiplicity": _tell_multiplicity,
    "resultant": _tell_resultant,
    "frame": _tell_frame,
    "rational": _tell_rational,
    "least": _tell_least,
    "shape": _tell_shape,
}

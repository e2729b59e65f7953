"""Texts of polynomials and of systems, and formulas."""

from rootfast.errors import BadText
from rootfast.numbers import read_number, write_number
from rootfast.polynomials import constant, multiplied, polynomial, raised, scaled, variable

_NAMES = "xyzu"
_FIGURES = "0123456789"
_EXPONENTS = ("0", "1", "2", "3", "4", "5", "6", "7", "8", "9", "10", "11", "12")
_MOST_BRACKETS = 30


def read_polynomial(n, text):
    """The polynomial that a formula in n variables stands for."""
    # All of the text is read before anything is worked out, so that a bad text is told soon.
    tree, _ = _formula(n, _parts_of(text), 0, 0)
    return _worth(n, tree)


def _parts_of(text):
    """The list of the numbers, names and signs of a text, and behind them an empty text as an end."""
    parts = []
    at = 0
    while at < len(text):
        behind = at + 1
        if text[at] == " ":
            if at == 0 or behind == len(text) or text[behind] == " ":
                raise BadText("a space stands where none may")
        elif text[at] in _FIGURES:
            behind = _number_end(text, at)
            parts.append(text[at:behind])
        else:
            # A sign that no formula has fits nowhere later on.
            parts.append(text[at])
        at = behind
    return parts + [""]


def _number_end(text, at):
    at = _figures_end(text, at)
    if text[at:at + 1] == "/":
        at = _figures_end(text, at + 1)
    return at


def _figures_end(text, at):
    while at < len(text) and text[at] in _FIGURES:
        at += 1
    return at


def _formula(n, parts, at, depth):
    """The tree of the formula that begins at a part, and the place behind it, as a pair.

    A formula that is in no brackets ends at the end, and one within brackets before the closing one.
    """
    sign = 1
    if parts[at] == "-":
        sign = -1
        at += 1
    tree, at = _product(n, parts, at, depth)
    terms = [(sign, tree)]
    while parts[at] in ("+", "-"):
        sign = 1 if parts[at] == "+" else -1
        tree, at = _product(n, parts, at + 1, depth)
        terms.append((sign, tree))
    if parts[at] != (")" if depth > 0 else ""):
        raise BadText("a formula does not end where it should")
    return ("sum", terms), at


def _product(n, parts, at, depth):
    tree, at = _factor(n, parts, at, depth)
    factors = [tree]
    while parts[at] == "*":
        tree, at = _factor(n, parts, at + 1, depth)
        factors.append(tree)
    return ("product", factors), at


def _factor(n, parts, at, depth):
    tree, at = _atom(n, parts, at, depth)
    if parts[at] != "^":
        return tree, at
    if parts[at + 1] not in _EXPONENTS:
        raise BadText("no exponent from 0 to 12")
    return ("power", tree, _EXPONENTS.index(parts[at + 1])), at + 2


def _atom(n, parts, at, depth):
    part = parts[at]
    if part == "(":
        if depth == _MOST_BRACKETS:
            raise BadText("brackets are nested too deep")
        tree, at = _formula(n, parts, at + 1, depth + 1)
        return tree, at + 1
    if part != "" and part in _NAMES[:n]:
        return ("plain", variable(n, _NAMES.index(part))), at + 1
    # Whatever else stands here is a number, or read_number raises BadText.
    return ("plain", constant(n, read_number(part))), at + 1


def _worth(n, tree):
    """The polynomial that the tree of a formula stands for."""
    word = tree[0]
    if word == "sum":
        return _sum_worth(n, tree[1])
    if word == "product":
        result = _worth(n, tree[1][0])
        for factor in tree[1][1:]:
            result = multiplied(result, _worth(n, factor))
        return result
    if word == "power":
        return raised(n, _worth(n, tree[1]), tree[2])
    return tree[1]


def _sum_worth(n, terms):
    pairs = []
    for sign, product_tree in terms:
        pairs.extend(scaled(_worth(n, product_tree), (sign, 1)))
    return polynomial(n, pairs)


def write_polynomial(n, p):
    """The text of a polynomial in n variables."""
    text = ""
    for exponents, coefficient in reversed(p):
        a, b = coefficient
        if text:
            text += " - " if a < 0 else " + "
        elif a < 0:
            text = "-"
        text += _term_text(exponents, (abs(a), b))
    return text or "0"


def _term_text(exponents, size):
    factors = []
    for k, e in enumerate(exponents):
        if e > 0:
            factors.append(_NAMES[k] if e == 1 else f"{_NAMES[k]}^{e}")
    if size != (1, 1) or not factors:
        factors = [write_number(size)] + factors
    return "*".join(factors)


def write_system(n, system):
    """The text of a system in n variables."""
    return "".join([write_polynomial(n, p) + "\n" for p in system])


def read_system(n, text):
    """The system of the formulas in the lines of a text."""
    lines = text.split("\n")
    # Behind the last line feed, and where there is no text at all, stands an empty piece.
    if len(lines) == 1 or lines[-1] != "":
        raise BadText("no line, or the last one has no line feed")
    return tuple([read_polynomial(n, line) for line in lines[:-1]])

"""Claims: texts of a system, a box and a tree, and the texts of boxes and trees in them."""

from rootfast.errors import BadText
from rootfast.numbers import compare, read_number, write_number
from rootfast.texts import read_polynomial, write_polynomial
from rootfast.trees import check_tree, leaf_words, told_and_rest

_FIGURES = "0123456789"
_MOST_FIGURES = 9
_MOST_BITS = 200
_MOST_HALVINGS = 40
_MOST_VARIABLES = 4


def write_box(box):
    """The text of a box."""
    return " ".join([f"[{write_number(low)},{write_number(high)}]" for low, high in box])


def read_box(n, text):
    """The box in n variables with a text."""
    words = text.split(" ")
    if len(words) != n:
        raise BadText("a box has another number of intervals")
    return tuple([_interval_of(word) for word in words])


def _interval_of(word):
    first, _, second = word[1:-1].partition(",")
    low = read_number(first)
    high = read_number(second)
    if word != f"[{first},{second}]" or compare(low, high) > 0:
        raise BadText("no interval")
    return (low, high)


def write_tree(tree):
    """The text of a tree."""
    words = []
    waiting = [tree]
    while waiting:
        here = waiting.pop()
        if here[0] == "halve":
            words.extend(["halve", str(here[1])])
            waiting.append(here[3])
            waiting.append(here[2])
        else:
            words.extend(leaf_words(here))
    return " ".join(words)


def read_tree(n, text):
    """The tree in n variables with a text."""
    words = text.split(" ")
    tree, at = _tree_at(n, words, 0, 0)
    if at != len(words):
        raise BadText("something stands behind a tree")
    return tree


def _tree_at(n, words, at, depth):
    """The pair of the tree that begins at a word, so many halvings deep, and the place behind it."""
    word = _word_at(words, at)
    if word == "rest":
        return ("rest",), at + 1
    if word == "free":
        return ("free", read_index(_word_at(words, at + 1))), at + 2
    if word == "single":
        return ("single", _matrix_at(n, words, at + 1)), at + 1 + n * n
    if word != "halve" or depth == _MOST_HALVINGS:
        raise BadText("no tree, or one that is too deep")
    k = read_index(_word_at(words, at + 1))
    if k >= n:
        raise BadText("no variable has this index")
    first, behind = _tree_at(n, words, at + 2, depth + 1)
    second, behind = _tree_at(n, words, behind, depth + 1)
    return ("halve", k, first, second), behind


def _word_at(words, at):
    if at >= len(words):
        raise BadText("a word is missing")
    return words[at]


def _matrix_at(n, words, at):
    rows = [[_word_at(words, at + n * i + k) for k in range(n)] for i in range(n)]
    return tuple([tuple([read_number(word) for word in row]) for row in rows])


def read_index(text):
    """The integer of at most nine figures, and without a sign, that is written in decimal form."""
    if not text or len(text) > _MOST_FIGURES or (text[0] == "0" and text != "0"):
        raise BadText("no index, or too many figures")
    for figure in text:
        if figure not in _FIGURES:
            raise BadText("a sign is no figure")
    return int(text)


def write_claim(system, box, tree):
    """The claim with a system, a box and a tree."""
    n = len(box)
    lines = [f"variables {n}"]
    for p in system:
        lines.append("polynomial " + write_polynomial(n, p))
    lines.append("box " + write_box(box))
    lines.append("tree " + write_tree(tree))
    return "".join([line + "\n" for line in lines])


def read_claim(text):
    """The triple of the system, the box and the tree of a claim."""
    lines = text.split("\n")
    n = read_index(_behind("variables ", lines[0]))
    # Behind the last line feed stands an empty piece.
    if not 1 <= n <= _MOST_VARIABLES or len(lines) != n + 4 or lines[-1] != "":
        raise BadText("another number of lines than told")
    system = tuple([_exact_polynomial(n, _behind("polynomial ", line)) for line in lines[1:n + 1]])
    box = read_box(n, _behind("box ", lines[n + 1]))
    tree = read_tree(n, _behind("tree ", lines[n + 2]))
    return system, box, tree


def _behind(start, line):
    """What stands in a line behind its first word."""
    if not line.startswith(start):
        raise BadText("a line has another first word")
    return line[len(start):]


def _exact_polynomial(n, text):
    # Brackets are refused before anything is multiplied out, and long products of numbers before they are written.
    if "(" in text:
        raise BadText("a polynomial is not in its own text")
    p = read_polynomial(n, text)
    if not all([_is_short(coefficient) for _, coefficient in p]) or write_polynomial(n, p) != text:
        raise BadText("a polynomial is not in its own text")
    return p


def _is_short(x):
    """True for each number that has at most 60 figures above and below the line, and for no very long one."""
    return max(abs(x[0]), x[1]).bit_length() <= _MOST_BITS


def judged(text):
    """The pair of the numbers of different told zeros and of boxes of the rest, or None if the tree is not right."""
    system, box, tree = read_claim(text)
    if not check_tree(system, box, tree):
        return None
    return told_and_rest(system, box, tree)

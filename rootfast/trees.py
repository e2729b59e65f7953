"""Trees of halvings: searched boxes, with a paper for each part."""

from rootfast.boxes import box_meeting, box_within, halves, longest, widened
from rootfast.numbers import write_number
from rootfast.papers import closer, free_index, is_free, is_single, narrowed, same_zero, single_paper, told_same

_MOST_HALVINGS = 40
_EDGE_BITS = 20
_REST = ("rest",)


def check_tree(system, box, value):
    """True if any value is a right tree in which at most 40 halvings lie on the way to any leaf."""
    return all_leaves_fit(box, value, lambda part, leaf: _is_right_leaf(system, part, leaf))


def all_leaves_fit(box, value, fits):
    """True if any value is a tree of halvings of a box, at most 40 deep, of which each leaf fits its part of the box.

    What fits is told by a function of a part and a leaf: a tuple that begins with a text.
    """
    waiting = [(box, value, 0)]
    while waiting:
        part, tree, depth = waiting.pop()
        if type(tree) != tuple or not tree:
            return False
        word = tree[0]
        if type(word) != str:
            return False
        if word == "halve":
            if len(tree) != 4 or depth == _MOST_HALVINGS or not _is_index(tree[1], len(box)):
                return False
            first, second = halves(part, tree[1])
            waiting.append((second, tree[3], depth + 1))
            waiting.append((first, tree[2], depth + 1))
        elif not fits(part, tree):
            return False
    return True


def _is_index(value, many):
    return type(value) == int and 0 <= value < many


def _is_right_leaf(system, box, leaf):
    if len(leaf) == 1:
        return leaf[0] == "rest"
    if len(leaf) != 2:
        return False
    word, paper = leaf
    if word == "free":
        return _is_index(paper, len(system)) and is_free(system, box, paper)
    return word == "single" and is_single(system, widened(box), paper)


def search(system, box, depth):
    """The tree of a box: halved at most so deep, and only where it must be."""
    found = looked_at(system, box, depth)
    if found[0] != "halve":
        return found
    k = found[1]
    first, second = halves(box, k)
    return ("halve", k, search(system, first, depth - 1), search(system, second, depth - 1))


def looked_at(system, box, depth):
    """The leaf that a search finds for a box, or ("halve", k) if it is to be halved."""
    k = free_index(system, box)
    if k is not None:
        return ("free", k)
    A = single_paper(system, widened(box))
    if A is not None:
        return ("single", A)
    if depth == 0:
        return _REST
    return ("halve", longest(box))


def leaf_words(leaf):
    """The list of the words of the text of a leaf."""
    if leaf[0] == "free":
        return ["free", str(leaf[1])]
    if leaf[0] == "single":
        return ["single"] + [write_number(x) for row in leaf[1] for x in row]
    return [leaf[0]]


def told(box, tree):
    """The list of the pairs (wide, A) of the told boxes of a right tree, from left to right."""
    return [(widened(part), leaf[1]) for part, leaf in _leaves(box, tree) if leaf[0] == "single"]


def rest(box, tree):
    """The list of the boxes of the rest of a right tree, from left to right."""
    return [part for part, leaf in _leaves(box, tree) if leaf[0] == "rest"]


def _leaves(box, tree):
    """The list of the pairs of boxes and leaves of a tree, from left to right."""
    found = []
    waiting = [(box, tree)]
    while waiting:
        part, here = waiting.pop()
        if here[0] == "halve":
            first, second = halves(part, here[1])
            waiting.append((second, here[3]))
            waiting.append((first, here[2]))
        else:
            found.append((part, here))
    return found


def different(system, pairs):
    """The list of boxes apart from each other, one for each different zero of boxes with single papers."""
    rows = []
    for wide, A in pairs:
        row = (narrowed(system, wide, A, _EDGE_BITS), wide, A)
        if not any([_has_same_zero(system, row, other) for other in rows]):
            rows.append(row)
    return _set_apart(system, [row[0] for row in rows])


def told_and_rest(system, box, tree):
    """The pair of the numbers of different zeros of the told boxes and of boxes of the rest of a right tree."""
    return len(different(system, told(box, tree))), len(rest(box, tree))


def _has_same_zero(system, row, other):
    small, wide, A = row
    other_small, other_wide, B = other
    found = told_same(small, wide, other_small, other_wide)
    return same_zero(system, wide, A, other_wide, B) if found is None else found


def _set_apart(system, boxes):
    """The boxes, made narrower until no two of them have a point in common."""
    bits = _EDGE_BITS
    while True:
        near = [_meets_another(boxes, k) for k in range(len(boxes))]
        if not any(near):
            return boxes
        bits = 2 * bits
        boxes = [closer(system, box, bits) if met else box for box, met in zip(boxes, near)]


def _meets_another(boxes, k):
    others = boxes[:k] + boxes[k + 1:]
    return any([box_meeting(boxes[k], other) is not None for other in others])


def zeros_within(system, box, depth):
    """The triple of the boxes of zeros within a box, of those on or near its edge, and of the rest."""
    tree = search(system, box, depth)
    inner = []
    edge = []
    # The boxes are narrow enough for the edge.
    for small in different(system, told(box, tree)):
        if box_within(small, box):
            inner.append(small)
        elif box_meeting(small, box) is not None:
            edge.append(small)
    return inner, edge, rest(box, tree)


def tree_counts(tree):
    """The tuple of the numbers of the free, single, rest and halve of a tree."""
    words = [word for word, _ in _words(tree)]
    return (words.count("free"), words.count("single"), words.count("rest"), words.count("halve"))


def tree_depth(tree):
    """The greatest number of halvings on the way to a leaf of a tree."""
    return max([depth for _, depth in _words(tree)])


def _words(tree):
    """The list of the pairs of the words of a tree and the numbers of halvings on the way to them."""
    found = []
    waiting = [(tree, 0)]
    while waiting:
        here, depth = waiting.pop()
        found.append((here[0], depth))
        if here[0] == "halve":
            waiting.append((here[2], depth + 1))
            waiting.append((here[3], depth + 1))
    return found

"""Hunts: searches that are done box by box, in any order, and kept as texts."""

from rootfast.boxes import halves
from rootfast.errors import BadText, NoPlace
from rootfast.trees import leaf_words, looked_at


class Hunt:
    """A search of a box, of which each part has a place: the way to it, 0 for a first half and 1 for a second."""

    def __init__(self, system, box, depth):
        self._system = system
        self._depth = depth
        self._boxes = {"": box}
        self._known = {}

    def open_places(self):
        """The list of the places of the open boxes, in order."""
        return sorted([place for place in self._boxes if place not in self._known])

    def is_at(self, place):
        """True if the box at a place is open."""
        return place in self._boxes and place not in self._known

    def work(self, place):
        """Look at an open box, and return the word for what was found."""
        if not self.is_at(place):
            raise NoPlace("no box is open at this place")
        found = looked_at(self._system, self._boxes[place], self._depth - len(place))
        if found[0] == "halve":
            first, second = halves(self._boxes[place], found[1])
            self._boxes[place + "0"] = first
            self._boxes[place + "1"] = second
        self._known[place] = found
        return found[0]

    def box_at(self, place):
        """The box at a place that is open or was worked at."""
        if place not in self._boxes:
            raise NoPlace("no box was reached at this place")
        return self._boxes[place]

    def is_done(self):
        """True if there are no open boxes."""
        return len(self._boxes) == len(self._known)

    def tree(self):
        """The tree as far as it is known, with a rest for each open box."""
        return self._tree_at("")

    def _tree_at(self, place):
        found = self._known.get(place, ("rest",))
        if found[0] != "halve":
            return found
        return ("halve", found[1], self._tree_at(place + "0"), self._tree_at(place + "1"))

    def counts(self):
        """The tuple of the numbers of open, free, single and rest boxes."""
        words = [self._known[place][0] for place in self._known]
        return (len(self._boxes) - len(words), words.count("free"), words.count("single"), words.count("rest"))

    def text(self):
        """The text of the hunt."""
        lines = []
        for place in sorted(list(self._boxes)):
            words = leaf_words(self._known.get(place, ("open",)))
            if words[0] != "halve":
                lines.append(f"[{place}] " + " ".join(words) + "\n")
        return "".join(lines)


def restored(system, box, depth, text):
    """A hunt that has a text."""
    hunt = Hunt(system, box, depth)
    for line in text.split("\n")[:-1]:
        _work_as_told(hunt, depth, line)
    # The same work has the same text. So nothing in the text needs to be read but what was worked at.
    if hunt.text() != text:
        raise BadText("no hunt has this text")
    return hunt


def _work_as_told(hunt, depth, line):
    """Work at all boxes on the way to the place of a line, and at the place itself if it is told as known."""
    place, mark, words = line[1:].partition("] ")
    if not mark or len(place) > depth:
        raise BadText("a line has no place, or one that lies too deep")
    for k in range(len(place)):
        if hunt.is_at(place[:k]):
            hunt.work(place[:k])
    if not hunt.is_at(place):
        raise BadText("no box is open at a place that is told")
    if words != "open":
        hunt.work(place)

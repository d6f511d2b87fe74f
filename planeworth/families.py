"""Families of lists of planes, each told by a word and a number; labels of the rooms of parkings."""

from planeworth.errors import BadNumber, NoAnswer, NotRow
from planeworth.graphs import Graph
from planeworth.linear import index_choices
from planeworth.planes import Planes, is_row
from planeworth.rooms import rooms

MOST_BY_WORD = {"axes": 4, "pairs": 4, "even": 4, "signs": 3, "six": 3, "parking": 3, "ballot": 2, "apart": 3,
                "above": 4}
STEPS_BY_WORD = {"parking": (0, -1), "ballot": (-1, 0, 1), "apart": (-1, 1), "above": (1,)}
LONG_ROWS = ((2, -1, -1, 0), (-1, 2, -1, 0), (-1, -1, 2, 0))
MOST_PARKING = 3


def plane_with(m, entries):
    """The plane at the origin with told entries at some letters, from a dict."""
    return tuple([entries.get(k, 0) for k in range(m)]) + (0,)


def axes(m):
    """The planes at which one letter is 0."""
    return [plane_with(m, {k: 1}) for k in range(m)]


def beside(m, factors):
    """For each pair of letters the planes at which the first one and a factor times the second one add up to 0."""
    return [plane_with(m, {i: 1, j: factor}) for i, j in index_choices(m, 2) for factor in factors]


def mirror_rows(word, m):
    """The tuples of a closed family."""
    if word == "axes":
        return axes(m)
    if word == "pairs":
        return beside(m, (-1,))
    if word == "even":
        return beside(m, (-1, 1))
    if word == "signs":
        return axes(m) + beside(m, (-1, 1))
    return beside(m, (-1,)) + list(LONG_ROWS)


def family_graph(word, m):
    """The graph of a family that is told by steps."""
    return Graph(m, [(i, j, g) for i, j in index_choices(m + 1, 2) for g in STEPS_BY_WORD[word]])


def family(word, m):
    """The list of planes of a family."""
    if not 1 <= m <= MOST_BY_WORD.get(word, 0) or (word == "six" and m != 3):
        raise BadNumber("there is no such family")
    if word in STEPS_BY_WORD:
        return family_graph(word, m).planes()
    return Planes(m, mirror_rows(word, m))


def check_parking(m):
    """Raise BadNumber if there is no list `parking` with so many letters."""
    if not 1 <= m <= MOST_PARKING:
        raise BadNumber("there are 1 to 3 letters")


def label_of(m, row):
    """The labels of the vertices for a row of `parking`."""
    labels = [0] * (m + 1)
    for (i, j, g), letter in zip(family_graph("parking", m).steps(), row):
        if g == -1 and letter == "-":
            labels[i] += 1
        if g == 0 and letter == "+":
            labels[j] += 1
    return tuple(labels)


def label(m, row):
    """The tuple of the labels of the vertices 0 to m."""
    check_parking(m)
    if not is_row(family("parking", m), row) or "0" in row:
        raise NotRow("a string is no row of signs + and - for the list")
    return label_of(m, row)


def room_with(m, labels):
    """The row of the room with the labels of a parking row."""
    check_parking(m)
    # Each parking row is that of just one room, and no other row is that of any.
    for room in rooms(family("parking", m)):
        if label_of(m, room) == labels:
            return room
    raise NoAnswer("the tuple is no parking row")

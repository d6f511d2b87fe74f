"""Graphs with steps: their lists of planes, colourings, orientations, trees and forests."""

from planeworth.circuits import is_tied
from planeworth.counting import check_rests, points_off, polynomial, value_at
from planeworth.errors import BadNumber, NoAnswer, NotGraph, NotRow
from planeworth.linear import index_choices, whole_determinant
from planeworth.planes import MOST_PLANES, Planes, check_letters, is_row
from planeworth.rooms import rooms

MOST_STEP = 9


def is_step(m, step):
    """Whether a tuple of integers may be a step of a graph with the vertices 0 to m."""
    if len(step) != 3:
        return False
    i, j, g = step
    return 0 <= i < j <= m and -MOST_STEP <= g <= MOST_STEP


def step_plane(m, step):
    """The plane of the points with xj - xi = g."""
    i, j, g = step
    row = [0] * (m + 1)
    # The place 0 stands for x0, which is no letter.
    row[j] = 1
    row[i] = -1
    return tuple(row[1:]) + (g,)


class Graph:
    """The vertices 0 to m and steps between them."""

    def __init__(self, m, steps):
        check_letters(m)
        if len(steps) > MOST_PLANES or not all([is_step(m, step) for step in steps]):
            raise NotGraph("there are up to 12 steps (i, j, g)")
        if len({step for step in steps}) < len(steps):
            raise NotGraph("a step stands twice")
        self.m = m
        self._steps = list(steps)

    def __len__(self):
        return len(self._steps)

    def __eq__(self, other):
        return isinstance(other, Graph) and self.m == other.m and self._steps == other._steps

    def steps(self):
        """The list of the triples."""
        return list(self._steps)

    def is_plain(self):
        """Whether all g are 0."""
        return all([g == 0 for _, _, g in self._steps])

    def planes(self):
        """The list of the graph."""
        return Planes(self.m, [step_plane(self.m, step) for step in self._steps])


def rest_points(graph, q):
    """The number of the rest points by q."""
    if q < 1:
        raise BadNumber("rests are by an integer from 1 on")
    check_rests(graph.m, q)
    return points_off(graph.planes(), q)


def edges_of(graph):
    """The list of the pairs of the ends of the edges; NotGraph if the graph is not plain."""
    if not graph.is_plain():
        raise NotGraph("the graph is not plain")
    return [(i, j) for i, j, _ in graph.steps()]


def arrows_of(graph, row):
    """The list of the pairs (from, to) of an orientation, behind the errors."""
    edges = edges_of(graph)
    if not is_row(graph.planes(), row) or "0" in row:
        raise NotRow("a string is no orientation")
    return [(i, j) if letter == "+" else (j, i) for (i, j), letter in zip(edges, row)]


def colours_of(graph):
    """The colour row of a plain graph."""
    return [0] + polynomial(graph.planes())


def colour_row(graph):
    """The list of the m + 2 integers of the colour row."""
    edges_of(graph)
    return colours_of(graph)


def check_colours(graph, q):
    """Raise NotGraph for the graph, then BadNumber if a number of colours is below 0."""
    edges_of(graph)
    if q < 0:
        raise BadNumber("there are at least 0 colours")


def colourings(graph, q):
    """The number of the colourings with q colours."""
    check_colours(graph, q)
    return value_at(colours_of(graph), q)


def agreeing(graph, q):
    """The number of the pairs of an orientation without rounds and a wide colouring that agrees with it."""
    check_colours(graph, q)
    return abs(value_at(colours_of(graph), -q))


def orientations(graph):
    """The list of the orientations without rounds."""
    edges_of(graph)
    return rooms(graph.planes())


def heights(graph, row):
    """The tuple of the heights of the vertices 0 to m."""
    arrows = arrows_of(graph, row)
    found = [0] * (graph.m + 1)
    # A way without rounds has at most m edges.
    for _ in range(graph.m):
        for start, end in arrows:
            found[end] = max(found[end], found[start] + 1)
    if any([found[end] <= found[start] for start, end in arrows]):
        raise NoAnswer("there is a round")
    return tuple(found)


def led_to(arrows, vertices):
    """The list of those vertices to which an edge leads from one of them."""
    return [vertex for vertex in vertices
            if any([end == vertex and start in vertices for start, end in arrows])]


def round_in(graph, row):
    """A round of an orientation, a list of vertices."""
    arrows = arrows_of(graph, row)
    left = list(range(graph.m + 1))
    for _ in range(graph.m + 1):
        left = led_to(arrows, left)
    if len(left) == 0:
        raise NoAnswer("there is no round")
    # From each vertex that is left an edge leads back to another one, so some vertex comes again.
    way = [left[0]]
    while way[-1] not in way[:-1]:
        way.append([start for start, end in arrows if end == way[-1] and start in left][0])
    return way[way.index(way[-1]) + 1:][::-1]


def sources(graph, row):
    """The tuple of the vertices to which no edge leads."""
    arrows = arrows_of(graph, row)
    ends = [end for _, end in arrows]
    return tuple([vertex for vertex in range(graph.m + 1) if vertex not in ends])


def trees_number(graph):
    """The number of the trees."""
    edges = edges_of(graph)
    table = [[0] * (graph.m + 1) for _ in range(graph.m + 1)]
    for i, j in edges:
        table[i][i] += 1
        table[j][j] += 1
        table[i][j] -= 1
        table[j][i] -= 1
    return whole_determinant([row[1:] for row in table[1:]])


def forests_number(graph):
    """The number of the forests."""
    edges = edges_of(graph)
    planes = graph.planes()
    # All planes meet, so just the sets with a round are tied.
    return len([part for size in range(graph.m + 1) for part in index_choices(len(edges), size)
                if not is_tied(planes, part)])

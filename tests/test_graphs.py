"""[230] to [235]: graphs."""

import unittest
from itertools import combinations, permutations, product

from planeworth.counting import polynomial, value_at
from planeworth.errors import BadNumber, NoAnswer, NotGraph, NotRow, TooLarge
from planeworth.graphs import (Graph, agreeing, colour_row, colourings, forests_number, heights, orientations,
                               rest_points, round_in, sources, trees_number)
from planeworth.planes import Planes, row_of
from planeworth.rooms import rooms
from tests.helpers import BIG, Refusals, all_rows, determinant_by_orders


def plain(m, *edges):
    return Graph(m, [(i, j, 0) for i, j in edges])


def full(m):
    return plain(m, *combinations(range(m + 1), 2))


TRIANGLE = full(2)
PLAIN = [
    plain(1), plain(3), plain(4), plain(1, (0, 1)), plain(2, (1, 2)), TRIANGLE, full(3), full(4),
    plain(3, (0, 1), (1, 2), (2, 3), (0, 3)), plain(4, (0, 1), (1, 2), (2, 3), (3, 4), (0, 4)),
    plain(4, (0, 3), (1, 3), (2, 3), (3, 4)), plain(4, (1, 2), (3, 4)), plain(4, (3, 4), (0, 1), (2, 3), (1, 2)),
    plain(4, (1, 3), (2, 4), (0, 1), (0, 3), (2, 3), (1, 4)), plain(4, (0, 1), (0, 2), (1, 2), (3, 4)),
    plain(3, (2, 3), (1, 3), (1, 2)), plain(4, (0, 4), (0, 1), (1, 2), (2, 3), (3, 4), (0, 2), (1, 4)),
]
MIXED = [
    Graph(1, []), Graph(1, [(0, 1, 9), (0, 1, -9)]), Graph(2, [(0, 1, 1), (1, 2, 1), (0, 2, 1)]),
    Graph(2, [(0, 2, -1), (0, 1, 0), (0, 1, 2), (1, 2, -3)]), Graph(3, [(1, 3, 1), (0, 2, -2), (2, 3, 1), (0, 3, 0)]),
    Graph(3, [(i, j, g) for i, j in combinations(range(4), 2) for g in (0, 1)]), Graph(4, [(0, 4, 1), (1, 2, -1)]),
]


def edges_of(graph):
    return [(i, j) for i, j, _ in graph.steps()]


def pieces(m, edges):
    """The number of the pieces of a set of edges."""
    label = list(range(m + 1))
    for i, j in edges:
        label = [label[i] if x == label[j] else x for x in label]
    return len(set(label))


def arrows(graph, row):
    return [(i, j) if letter == "+" else (j, i) for (i, j), letter in zip(edges_of(graph), row)]


def has_round(m, led):
    """Whether no order of the vertices has all edges lead onwards."""
    return not any(all(order[i] < order[j] for i, j in led) for order in permutations(range(m + 1)))


def longest(led, vertex):
    """The edges on the longest way that ends at a vertex, without rounds."""
    return max((1 + longest(led, i) for i, j in led if j == vertex), default=0)


def parts_of(edges):
    return [part for size in range(len(edges) + 1) for part in combinations(edges, size)]


def proper(m, edges, q):
    """The number of the colourings, each of them looked at."""
    return sum(all(row[i] != row[j] for i, j in edges) for row in product(range(q), repeat=m + 1))


CALM = {id(graph): [row for row in all_rows(len(graph), "+-") if not has_round(graph.m, arrows(graph, row))]
        for graph in PLAIN}


class TestGraph(unittest.TestCase, Refusals):

    def test_planes(self):
        for graph in PLAIN + MIXED:
            rows = []
            for i, j, g in graph.steps():
                row = [0] * graph.m + [g]
                row[j - 1] = 1
                if i:
                    row[i - 1] = -1
                rows.append(tuple(row))
            self.assertEqual(graph.planes(), Planes(graph.m, rows))
            self.assertIsInstance(graph.planes(), Planes)

    def test_fields_and_methods(self):
        steps = [(1, 2, -9), (0, 1, 9), (0, 1, 0)]
        graph = Graph(2, steps)
        self.assertEqual((graph.m, len(graph), graph.steps()), (2, 3, steps))
        self.assertIs(graph.is_plain(), False)
        self.assertIs(TRIANGLE.is_plain(), True)
        self.assertIs(Graph(4, []).is_plain(), True)
        self.assertFalse(Graph(4, []))
        self.assertTrue(graph)
        graph.steps().clear()
        steps.clear()
        self.assertEqual(graph.steps(), [(1, 2, -9), (0, 1, 9), (0, 1, 0)])

    def test_equal_graphs(self):
        one = Graph(2, [(0, 1, 1), (1, 2, 0)])
        self.assertTrue(one == Graph(2, [(0, 1, 1), (1, 2, 0)]))
        for other in (Graph(2, [(1, 2, 0), (0, 1, 1)]), Graph(3, [(0, 1, 1), (1, 2, 0)]), Graph(2, [(0, 1, 1)]),
                      Graph(2, [(0, 1, 1), (1, 2, 1)])):
            self.assertFalse(one == other)
        self.assertFalse(one == 1)

    def test_no_steps(self):
        for step in ((0, 0, 0), (1, 0, 0), (2, 1, 0), (-1, 1, 0), (0, 3, 0), (0, BIG, 0), (0, 1, 10), (0, 1, -10),
                     (0, 1, BIG), (0, 1), (0, 1, 0, 0), ()):
            self.told(NotGraph, Graph, 2, [(0, 2, 0), step])
        self.told(NotGraph, Graph, 2, [(0, 1, 3), (0, 2, 0), (0, 1, 3)])

    def test_twelve_steps(self):
        steps = [(i, j, g) for i, j in combinations(range(4), 2) for g in (0, 1, 2)]
        self.assertEqual(len(Graph(3, steps[:12])), 12)
        self.told(NotGraph, Graph, 3, steps[:13])

    def test_vertices(self):
        for m in (0, 5, -1, BIG):
            self.told(BadNumber, Graph, m, [])
            self.told(BadNumber, Graph, m, [(1, 0, 0)])
        for m in (1, 2, 3, 4):
            self.assertEqual(Graph(m, [(0, m, 1)]).m, m)


class TestRestPoints(unittest.TestCase, Refusals):

    def test_all_rows_of_rests(self):
        for graph in PLAIN + MIXED:
            for q in (1, 2, 3, 4, 5):
                due = 0
                for row in product(range(q), repeat=graph.m):
                    rests = (0, *row)
                    due += all((rests[j] - rests[i] - g) % q for i, j, g in graph.steps())
                self.assertEqual(rest_points(graph, q), due)

    def test_the_value_of_the_polynomial(self):
        for graph in PLAIN + MIXED:
            least = sum(abs(g) for _, _, g in graph.steps()) + 1
            for q in (least, least + 1, least + 4):
                if q ** graph.m <= 3000:
                    self.assertEqual(rest_points(graph, q), value_at(polynomial(graph.planes()), q))

    def test_bounds(self):
        for q in (0, -1, -BIG):
            self.told(BadNumber, rest_points, MIXED[3], q)
        self.assertEqual(rest_points(plain(1, (0, 1)), 3000), 2999)
        self.told(TooLarge, rest_points, plain(1, (0, 1)), 3001)
        self.assertEqual(rest_points(TRIANGLE, 54), 53 * 52)
        self.told(TooLarge, rest_points, TRIANGLE, 55)
        self.assertEqual(rest_points(plain(3), 14), 2744)
        self.told(TooLarge, rest_points, plain(3), 15)
        self.assertEqual(rest_points(plain(4), 7), 2401)
        self.told(TooLarge, rest_points, plain(4), 8)
        self.told(TooLarge, rest_points, plain(4), BIG)

    def test_one_rest(self):
        self.assertEqual(rest_points(plain(4), 1), 1)
        self.assertEqual(rest_points(MIXED[1], 1), 0)


class TestColours(unittest.TestCase, Refusals):

    def test_colourings_that_are_listed(self):
        for graph in PLAIN:
            for q in (0, 1, 2, 3, 4):
                self.assertEqual(colourings(graph, q), proper(graph.m, edges_of(graph), q))

    def test_colour_rows(self):
        for graph in PLAIN:
            due = [0] * (graph.m + 2)
            for part in parts_of(edges_of(graph)):
                due[pieces(graph.m, part)] += (-1) ** len(part)
            found = colour_row(graph)
            self.assertEqual(found, due)
            self.assertEqual(found, [0] + polynomial(graph.planes()))
            found.clear()
            self.assertEqual(colour_row(graph), due)

    def test_large_numbers(self):
        self.assertEqual(colourings(full(4), BIG), BIG * (BIG - 1) * (BIG - 2) * (BIG - 3) * (BIG - 4))
        self.assertEqual(colourings(plain(3), BIG), BIG ** 4)
        self.assertEqual(agreeing(full(2), BIG), BIG * (BIG + 1) * (BIG + 2))

    def test_pairs_that_agree(self):
        for graph in PLAIN:
            for q in (0, 1, 2, 3) if graph.m < 4 else (1, 2):
                due = 0
                for wide in product(range(q), repeat=graph.m + 1):
                    due += sum(all(wide[i] <= wide[j] for i, j in arrows(graph, row)) for row in CALM[id(graph)])
                self.assertEqual(agreeing(graph, q), due)

    def test_errors(self):
        for call in (colourings, agreeing):
            for q in (-1, -BIG):
                self.told(BadNumber, call, TRIANGLE, q)
                self.told(NotGraph, call, MIXED[2], q)
            self.told(NotGraph, call, MIXED[2], 3)
        for call in (colour_row, orientations, trees_number, forests_number):
            self.told(NotGraph, call, MIXED[2])
            self.told(NotGraph, call, Graph(2, [(0, 1, 0), (0, 2, 1)]))


class TestOrientations(unittest.TestCase, Refusals):

    def test_orientations_without_rounds(self):
        for graph in PLAIN:
            found = orientations(graph)
            self.assertEqual(found, CALM[id(graph)])
            self.assertEqual(found, rooms(graph.planes()))
            self.assertEqual(len(found), abs(value_at(colour_row(graph), -1)))
            found.clear()
            self.assertEqual(orientations(graph), CALM[id(graph)])

    def test_heights(self):
        for graph in PLAIN:
            for row in CALM[id(graph)]:
                led = arrows(graph, row)
                found = heights(graph, row)
                self.assertEqual(found, tuple(longest(led, vertex) for vertex in range(graph.m + 1)))
                point = tuple((x - found[0], 1) for x in found[1:])
                self.assertEqual(row_of(graph.planes(), point), row)
                self.told(NoAnswer, round_in, graph, row)

    def test_rounds(self):
        sizes = set()
        for graph in PLAIN:
            calm = set(CALM[id(graph)])
            for row in all_rows(len(graph), "+-"):
                if row in calm:
                    continue
                led = arrows(graph, row)
                found = round_in(graph, row)
                self.assertIsInstance(found, list)
                self.assertEqual(len(set(found)), len(found))
                self.assertTrue(set(zip(found, found[1:] + found[:1])) <= set(led))
                self.assertGreater(len(found), 1)
                sizes.add(len(found))
                self.told(NoAnswer, heights, graph, row)
        self.assertTrue({3, 4, 5} <= sizes)

    def test_sources(self):
        for graph in PLAIN:
            alone = [0] * (graph.m + 1)
            for row in all_rows(len(graph), "+-"):
                ends = [j for _, j in arrows(graph, row)]
                due = tuple(vertex for vertex in range(graph.m + 1) if vertex not in ends)
                self.assertEqual(sources(graph, row), due)
            for row in CALM[id(graph)]:
                if len(sources(graph, row)) == 1:
                    alone[sources(graph, row)[0]] += 1
            self.assertEqual(alone, [abs(colour_row(graph)[1])] * (graph.m + 1))

    def test_errors_in_their_order(self):
        for call in (heights, round_in, sources):
            for row in ("", "++", "++++", "++0", "000", "+x-", "+-x"):
                self.told(NotRow, call, TRIANGLE, row)
                self.told(NotGraph, call, MIXED[2], row)
            self.told(NotGraph, call, MIXED[2], "+++")
            self.told(NotRow, call, plain(3), "+")

    def test_no_edges(self):
        for m in (1, 4):
            graph = plain(m)
            self.assertEqual(orientations(graph), [""])
            self.assertEqual(heights(graph, ""), (0,) * (m + 1))
            self.assertEqual(sources(graph, ""), tuple(range(m + 1)))
            self.told(NoAnswer, round_in, graph, "")


class TestTrees(unittest.TestCase):

    def test_sets_of_edges(self):
        for graph in PLAIN:
            forests = [part for part in parts_of(edges_of(graph))
                       if pieces(graph.m, part) == graph.m + 1 - len(part)]
            self.assertEqual(forests_number(graph), len(forests))
            self.assertEqual(trees_number(graph), sum(len(part) == graph.m for part in forests))

    def test_rows_of_numbers_of_edges(self):
        for graph in PLAIN:
            found = set()
            for row in all_rows(len(graph), "+-"):
                ends = [j for _, j in arrows(graph, row)]
                found.add(tuple(ends.count(vertex) for vertex in range(graph.m + 1)))
            self.assertEqual(forests_number(graph), len(found))

    def test_the_matrix(self):
        for graph in PLAIN:
            edges = edges_of(graph)
            rows = [[sum(i in edge for edge in edges) if i == j else -sum({i, j} == set(edge) for edge in edges)
                     for j in range(1, graph.m + 1)] for i in range(1, graph.m + 1)]
            self.assertEqual(trees_number(graph), determinant_by_orders(rows))

    def test_full_graphs_rings_and_trees(self):
        for m in (1, 2, 3, 4):
            self.assertEqual(trees_number(full(m)), (m + 1) ** (m - 1))
            way = plain(m, *[(i, i + 1) for i in range(m)])
            self.assertEqual((trees_number(way), forests_number(way)), (1, 2 ** m))
            self.assertEqual((trees_number(plain(m)), forests_number(plain(m))), (0, 1))
        for m in (2, 3, 4):
            ring = plain(m, (0, m), *[(i, i + 1) for i in range(m)])
            self.assertEqual((trees_number(ring), forests_number(ring)), (m + 1, 2 ** (m + 1) - 1))

    def test_example(self):
        self.assertEqual(TRIANGLE.planes().planes(), [(1, 0, 0), (0, 1, 0), (-1, 1, 0)])
        self.assertEqual(colour_row(TRIANGLE), [0, 2, -3, 1])
        self.assertEqual(len(orientations(TRIANGLE)), 6)
        self.assertEqual((trees_number(TRIANGLE), forests_number(TRIANGLE)), (3, 7))
        self.assertEqual(heights(TRIANGLE, "++-"), (0, 2, 1))
        self.assertIn(round_in(TRIANGLE, "+-+"), ([0, 1, 2], [1, 2, 0], [2, 0, 1]))


if __name__ == "__main__":
    unittest.main()

"""What the document says of several parts at once, for small lists of several kinds."""

import unittest
from fractions import Fraction
from itertools import combinations, product
from random import Random

from planeworth.alike import are_alike, decide, flag_value, flags, form_at, is_answer, lowered, paper_sum, plain
from planeworth.bodies import corners, greatest, pieces, placed, planes_of, stroke_count
from planeworth.certificates import faces_told, shows_in, shows_out
from planeworth.circuits import allowed
from planeworth.counting import bounded_number, faces_numbers, polynomial, rooms_number, value_at
from planeworth.derivations import degrees, freedom, lawful
from planeworth.distances import toll_determinant, toll_rank, toll_table
from planeworth.errors import NoAnswer
from planeworth.flats import flat_dimension, web, weight
from planeworth.graphs import Graph, agreeing, colour_row, colourings, orientations, rest_points, sources
from planeworth.linear import determinant, matrix_product, rank
from planeworth.numbers import minus
from planeworth.papers import row_papers
from planeworth.planes import Planes
from planeworth.polys import plane_form, poly_determinant, poly_product
from planeworth.products import Sum, zero_sum
from planeworth.rooms import faces, is_bounded, neighbours, product_of_rows, rooms, walls
from planeworth.shown import shows_alike, shows_bound, shows_free, shows_parted
from planeworth.sides import is_shown
from planeworth.signrows import apart_from, least_rows, row_closure, rows_of_rooms, sign_circuits
from planeworth.walks import away, away_bound, diagonal_sum, drawn, is_rest, rest, shares, step_table, steps_table
from tests.helpers import (ORIGIN_LISTS, SMALL_LISTS, all_rows, fractions, origin_planes, pair, pairs, random_planes,
                           random_sum)
from tests.test_distances import product_over_flats

LISTS = SMALL_LISTS + [random_planes(2, 2, 5, 3), random_planes(3, 3, 5, 2), origin_planes(2, 3, 5, 1)]
CENTRAL = [planes for planes in LISTS + ORIGIN_LISTS if planes.is_central()]


def sums_of(planes, size):
    """Some sums of a size, with 0 and one that relations make of nothing among them."""
    found = [random_sum(seed, planes, size) for seed in range(3)] + [zero_sum(planes, size)]
    return found + [found[0] - plain(found[0])]


class TestRowsAndRooms(unittest.TestCase):

    def test_parts_of_rows(self):
        # [45]
        for planes in LISTS:
            if len(planes) <= 5:
                parts = [part for size in range(planes.n + 2) for part in combinations(range(len(planes)), size)]
                shown = {part: {row for row in all_rows(len(part)) if is_shown(planes.only(part), row)} for part in parts}
                for row in all_rows(len(planes)):
                    due = all("".join(row[at] for at in part) in shown[part] for part in parts)
                    self.assertIs(is_shown(planes, row), due)

    def test_walls(self):
        # [64]
        for planes in LISTS:
            every, told = set(rooms(planes)), set(faces(planes))
            for room in every:
                turned = [room[:k] + ("-" if room[k] == "+" else "+") + room[k + 1:] for k in range(len(room))]
                due = tuple(k for k in range(len(room)) if room[:k] + "0" + room[k + 1:] in told)
                self.assertEqual(walls(planes, room), due)
                self.assertEqual(due, tuple(k for k in range(len(room)) if turned[k] in every))
                self.assertEqual(neighbours(planes, room), [turned[k] for k in due])

    def test_numbers_by_the_polynomial(self):
        # [85], [86], [88]
        for planes in LISTS + ORIGIN_LISTS:
            due = [0] * (planes.n + 1)
            for flat in web(planes):
                due[flat_dimension(planes, flat)] += weight(planes, flat)
            poly = polynomial(planes)
            self.assertEqual((poly, poly[-1]), (due, 1))
            every = rooms(planes)
            self.assertEqual(rooms_number(planes), len(every))
            self.assertEqual((-1) ** planes.n * value_at(poly, -1), len(every))
            self.assertEqual(bounded_number(planes), sum(is_bounded(planes, room) for room in every))
            self.assertEqual(sum(faces_numbers(planes)), len(faces(planes)))

    def test_papers_tell_the_faces(self):
        for planes in LISTS:
            self.assertEqual(faces_told(planes.n, planes.planes(), row_papers(planes)), faces(planes))


class TestSums(unittest.TestCase):

    def test_numbers_of_allowed_products(self):
        # [101]
        for planes in LISTS:
            for size in range(len(planes) + 1):
                due = abs(polynomial(planes)[planes.n - size]) if size <= planes.n else 0
                self.assertEqual(len(allowed(planes, size)), due)

    def test_three_ways_to_tell_what_is_alike(self):
        # [105] to [108], [110], [267]
        for planes in LISTS:
            point = pairs(*[Fraction(k * 7 + 5, 3 * k + 11) for k in range(planes.n)])
            for size in range(min(len(planes), planes.n) + 2):
                for one, other in product(sums_of(planes, size)[:3], sums_of(planes, size)[2:]):
                    due = are_alike(one, other)
                    word, told = decide(one, other)
                    self.assertEqual(word == "alike", due)
                    self.assertIs(is_answer(one, other, (word, told)), True)
                    self.assertEqual(plain(one) == plain(other), due)
                    same = all(flag_value(one, flag) == flag_value(other, flag) for flag in flags(planes, size))
                    self.assertEqual(same, due)
                    if size <= planes.n and due:
                        self.assertEqual(form_at(one, point), form_at(other, point))
                    if due:
                        self.assertEqual(paper_sum(planes, size, told), one - other)
                    check = shows_alike if due else shows_parted
                    self.assertIs(check(planes.n, planes.planes(), size, one.terms(), other.terms(), told), True)

    def test_lowered_sums(self):
        # [109]: what is alike stays so, and twice lowered is 0.
        for planes in CENTRAL:
            for size in range(1, min(len(planes), planes.n + 1) + 1):
                for one in sums_of(planes, size):
                    low = lowered(one)
                    self.assertEqual((low.base, low.size), (planes, size - 1))
                    self.assertIs(are_alike(low, lowered(plain(one))), True)
                    self.assertEqual(decide(low, lowered(plain(one)))[0], "alike")
                    if size > 1:
                        self.assertEqual(len(lowered(low)), 0)

    def test_what_is_lowered_to_nothing(self):
        # [109]: it is alike to one that is lowered, namely from the sum with a plane in front.
        tried = 0
        for planes in CENTRAL:
            if not len(planes):
                continue
            for size in range(min(len(planes), planes.n + 1) + 1):
                for one in sums_of(planes, size + 1)[:3]:
                    low = lowered(one)
                    front = [Sum(planes, 1, [((at,), (1, 1))]) * low for at in range(len(planes))]
                    for higher in front:
                        self.assertEqual(higher.size, size + 1)
                        # Lowering (h) s makes s less (h) times s lowered, and that is 0 here.
                        self.assertIs(are_alike(lowered(higher), low), True)
                    tried += len(low) > 0
                # Of all sums of plain products: those that are lowered to 0 are just so many as are lowered.
                self.ranks(planes, size)
        self.assertGreater(tried, 50)

    def ranks(self, planes, size):
        """All that is lowered to nothing is lowered from something, told by the ranks of both steps."""
        def step(q):
            rows = []
            for part in allowed(planes, q):
                low = plain(lowered(Sum(planes, q, [(part, (1, 1))])))
                rows.append(tuple(low.at(other) for other in allowed(planes, q - 1)))
            return rank(len(allowed(planes, q - 1)), rows)
        to_here = step(size + 1)
        from_here = step(size) if size else 0
        self.assertEqual(to_here + from_here, len(allowed(planes, size)))

    def test_no_planes_at_all(self):
        one = Sum(Planes(2, []), 0, [((), (1, 1))])
        self.assertEqual(decide(one, zero_sum(Planes(2, []), 0)), ("apart", []))
        self.assertEqual(lowered(zero_sum(Planes(2, []), 1)), zero_sum(Planes(2, []), 0))


class TestFreePlanes(unittest.TestCase):

    def test_degrees(self):
        # [137], [263]
        for planes in ORIGIN_LISTS:
            n, rows = planes.n, planes.planes()
            word, told = freedom(planes)
            self.assertEqual((shows_free(n, rows, told), shows_bound(n, rows, told)), (word == "free", word == "bound"))
            if word == "bound":
                self.assertRaises(NoAnswer, degrees, planes)
                continue
            found = degrees(planes)
            self.assertEqual((sum(found), found), (len(planes), sorted(found)))
            due = [1]
            for d in found:
                due = [a - d * b for a, b in zip([0] + due, due + [0])]
            self.assertEqual(polynomial(planes), due)
            self.assertTrue(all(lawful(planes, value) for value in told))
            made = (((0,) * n, 1),)
            for plane in rows:
                made = poly_product(n, made, plane_form(n, plane))
            found = poly_determinant(n, list(told))
            self.assertEqual([powers for powers, _ in found], [powers for powers, _ in made])
            self.assertEqual(len({Fraction(a, b) for (_, a), (_, b) in zip(found, made)}), 1)


BODIES = [(1, [(3,), (-2,)]), (2, [(1, 0), (0, 1), (1, 1)]), (2, [(2, 1), (4, 2), (1, -1)]), (3, [(1, 0, 0), (0, 1, 0), (0, 0, 1), (1, 1, 1)]),
          (2, [(1, 2), (1, 2), (3, 1)]), (3, [(1, 2, 3), (-1, 0, 2)]), (2, [])]


class TestBodies(unittest.TestCase):

    def test_corners_and_rooms(self):
        # [152], [153]
        for n, strokes in BODIES:
            found = corners(n, strokes)
            self.assertEqual(len(set(found)), len(rooms(planes_of(n, strokes))))
            sums = {tuple(sum(stroke[k] for stroke in part) for k in range(n)) for size in range(len(strokes) + 1)
                    for part in combinations(strokes, size)}
            self.assertLessEqual(set(found), sums)
            for place in sums:
                # A sum of strokes is a corner if it is not the middle of two points of the body a little apart.
                halves = [tuple((a * 2 + d * b, 2 * 10 ** 4) for a, d in zip((x * 10 ** 4 for x in place), stroke)) for stroke in strokes
                          for b in (1, -1)]
                inside = [placed(n, strokes, tuple(pair(Fraction(*x)) for x in half))[0] == "in" for half in halves]
                middle = any(inside[k] and inside[k + 1] for k in range(0, len(inside), 2))
                if middle:
                    self.assertNotIn(place, found)

    def test_points_in_pieces(self):
        # [158], [264]
        draw = Random(4)
        for n, strokes in BODIES:
            if stroke_count(n, strokes)[-1] == 0:
                continue
            told = pieces(n, strokes)
            for _ in range(30):
                point = [Fraction(draw.randint(-2, 9), draw.randint(1, 3)) for _ in range(n)]
                word, paper = placed(n, strokes, pairs(*point))
                inside = 0
                near = 0
                for choice, shift in told:
                    columns = [strokes[at] for at in choice]
                    shares = self.shares_in(n, columns, [x - s for x, s in zip(point, shift)])
                    near += all(0 <= x <= 1 for x in shares)
                    inside += all(0 < x < 1 for x in shares)
                self.assertEqual(word == "in", near > 0)
                self.assertLessEqual(inside, 1)
                self.assertIs((shows_in if word == "in" else shows_out)(n, strokes, pairs(*point), paper), True)
                if word == "out":
                    value = sum(u * x for u, x in zip(paper, point))
                    self.assertGreater(value, greatest(n, strokes, paper))

    def shares_in(self, n, columns, place):
        """The shares of n independent strokes that lead to a place, by determinants."""
        def worth(rows):
            return Fraction(*determinant(n, [pairs(*row) for row in rows]))
        whole = worth(columns)
        return [worth(columns[:k] + [place] + columns[k + 1:]) / whole for k in range(n)]


class TestSignRows(unittest.TestCase):

    def test_four_lists_of_faces(self):
        # [172] to [175]
        for planes in ORIGIN_LISTS:
            k = len(planes)
            if not 1 <= k <= 6:
                continue
            every = faces(planes)
            self.assertEqual(row_closure(k, least_rows(every)), every)
            self.assertEqual(apart_from(k, sign_circuits(planes)), every)
            self.assertEqual(rows_of_rooms(k, rooms(planes)), every)
            closed = row_closure(k, sign_circuits(planes))
            self.assertEqual(apart_from(k, every), closed)
            self.assertEqual(least_rows(closed), sign_circuits(planes))


class TestTablesAndWalks(unittest.TestCase):

    def test_tolls(self):
        # [190], [194], [197]
        draw = Random(5)
        for planes in LISTS:
            many = rooms_number(planes)
            if many > 24:
                continue
            tolls = pairs(*[draw.choice((1, 2, -1, 0, Fraction(1, 2), Fraction(-2, 3))) for _ in range(len(planes))])
            table = toll_table(planes, tolls)
            self.assertEqual(toll_determinant(planes, tolls), determinant(many, table))
            self.assertEqual(toll_rank(planes, tolls), rank(many, table))
            self.assertEqual(toll_determinant(planes, tolls), pair(product_over_flats(planes, tolls)))

    def test_walks(self):
        # [211] to [216]
        draw = Random(6)
        for planes in LISTS:
            every = rooms(planes)
            if len(every) > 20:
                continue
            chosen = draw.sample(faces(planes), min(5, len(faces(planes))))
            weights = [draw.randint(1, 9) for _ in chosen]
            chances = [(face, pair(Fraction(w, sum(weights)))) for face, w in zip(chosen, weights)]
            table = step_table(planes, chances)
            for room, row in zip(every, table):
                for face, _ in chances:
                    self.assertGreater(row[every.index(product_of_rows(planes, face, room))][0], 0)
            many = len(every)
            self.assertEqual(matrix_product(many, table, many, steps_table(planes, chances, 2)), steps_table(planes, chances, 3))
            made = steps_table(planes, chances, 0)
            for x, _ in shares(planes, chances):
                less = [tuple(minus(y, x) if i == j else y for j, y in enumerate(row)) for i, row in enumerate(table)]
                made = matrix_product(many, made, many, less)
            self.assertFalse(any(x[0] for row in made for x in row))
            for k in (0, 1, 4):
                trace = sum(fractions([row[i] for i, row in enumerate(steps_table(planes, chances, k))]))
                self.assertEqual(diagonal_sum(planes, chances, k), pair(trace))
            try:
                found = rest(planes, chances)
            except NoAnswer:
                self.assertRaises(NoAnswer, drawn, planes, chances)
                continue
            self.assertEqual(found, drawn(planes, chances))
            self.assertIs(is_rest(planes, chances, found), True)
            for k in (0, 3, 10):
                self.assertLessEqual(Fraction(*away(planes, chances, every[-1], k)), Fraction(*away_bound(planes, chances, k)))


class TestGraphs(unittest.TestCase):

    def test_graphs(self):
        # [231] to [234]
        draw = Random(7)
        for m in (1, 2, 3, 4):
            every = list(combinations(range(m + 1), 2))
            for _ in range(4):
                edges = draw.sample(every, draw.randint(0, len(every)))
                graph = Graph(m, [(i, j, 0) for i, j in edges])
                row = colour_row(graph)
                self.assertEqual(row, [0] + polynomial(graph.planes()))
                self.assertEqual(orientations(graph), rooms(graph.planes()))
                self.assertEqual(len(orientations(graph)), abs(value_at(row, -1)))
                for q in (1, 2, 5):
                    self.assertEqual(colourings(graph, q), q * rest_points(graph, q))
                    self.assertEqual(agreeing(graph, q), abs(value_at(row, -q)))
                for vertex in range(m + 1):
                    alone = [told for told in orientations(graph) if sources(graph, told) == (vertex,)]
                    self.assertEqual(len(alone), abs(row[1]))


if __name__ == "__main__":
    unittest.main()

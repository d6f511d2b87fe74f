"""[150] to [160]: bodies spanned by strokes."""

import unittest
from fractions import Fraction
from itertools import combinations, product
from math import gcd
from random import Random

from planeworth.bodies import (check_strokes, corner, corners, graph_strokes, greatest, is_strokes, pieces, placed,
                               planes_of, stroke_count, volume, whole_inner_number, whole_number, whole_points)
from planeworth.errors import BadNumber, NoAnswer, NotGraph, NotPoint, NotStrokes, TooLarge
from planeworth.planes import Planes
from planeworth.texts import read_planes
from tests.helpers import BIG, NO_NUMBERS, Refusals, determinant_by_orders, dot, fractions, pairs, reduced

EXAMPLE = [(1, 0), (0, 1), (1, 1)]


def random_strokes(seed, n, many, most):
    draw = Random(seed)
    strokes = []
    while len(strokes) < many:
        stroke = tuple(draw.randint(-most, most) for _ in range(n))
        if any(stroke):
            strokes.append(stroke)
    return strokes


# Equal and opposite strokes, some on one line or in one plane, and none at all.
LISTS = [(1, []), (3, []), (1, [(3,)]), (1, [(2,), (-3,), (2,)]), (2, EXAMPLE), (2, [(2, 4)]), (2, [(1, 2), (-2, -4)]),
         (2, [(1, 1), (1, -1), (1, 1), (-1, 1)]), (2, [(0, 3), (2, 1), (-1, 0), (2, 2)]), (3, [(1, 0, 0), (0, 1, 1)]),
         (3, [(1, 0, 0), (0, 1, 0), (1, 1, 0), (0, -1, 0)]), (3, [(1, 0, 0), (0, 1, 0), (0, 0, 1), (1, 1, 1)]),
         (3, [(1, -1, 0), (0, 1, -1), (1, 0, -1), (2, 0, 0)]), (3, [(0, 0, 2)]), (4, [(1, 1, 0, 0), (0, 0, 1, -1)]),
         (4, [(1, 0, 0, 0), (0, 1, 0, 0), (0, 0, 1, 0), (0, 0, 0, 1), (1, 1, 1, 1)]),
         (4, [(1, 0, 2, 0), (0, 1, 0, 0), (1, 1, 2, 0), (0, 0, 0, 1)])] + [
             (n, random_strokes(10 * n + k, n, 5 if n < 4 else 4 + k, 2)) for n in (1, 2, 3, 4) for k in (0, 1)]


def rank(rows):
    return len(reduced(rows))


def value(u, p):
    return sum(a * x for a, x in zip(u, p))


def most(strokes, u):
    return sum(max(0, value(u, a)) for a in strokes)


def plus(n, strokes):
    return tuple(sum(a[k] for a in strokes) for k in range(n))


def directions(n, strokes):
    """Directions that tell the body with their opposites: 0 on n - 1 strokes, or on rows of units in their place."""
    rows = list(strokes) + [tuple(int(j == k) for j in range(n)) for k in range(n)]
    found = []
    for part in combinations(rows, n - 1):
        u = []
        for k in range(n):
            u.append((-1) ** k * determinant_by_orders([[row[j] for j in range(n) if j != k] for row in part]))
        if any(u):
            found += [u, [-a for a in u]]
    return found


def inside(n, strokes, point, told=None):
    """Whether a point is in the body."""
    return all(value(u, point) <= most(strokes, u) for u in told or directions(n, strokes))


def solved(rows, wanted):
    """The numbers by which independent rows, multiplied, add up to the wanted row; or None."""
    columns = [[Fraction(row[k]) for row in rows] + [Fraction(wanted[k])] for k in range(len(wanted))]
    found = reduced(columns)
    if any(not any(row[:-1]) for row in found):
        return None
    return [row[-1] for row in found]


def vertex_shares(n, strokes, point):
    """All shares of a point for which the strokes with shares other than 0 and 1 are independent."""
    found = []
    many = len(strokes)
    for kinds in product("01x", repeat=many):
        free = [k for k in range(many) if kinds[k] == "x"]
        if rank([strokes[k] for k in free]) < len(free):
            continue
        left = [Fraction(x) - sum(strokes[k][j] for k in range(many) if kinds[k] == "1") for j, x in enumerate(point)]
        if not free:
            told = None if any(left) else []
        else:
            told = solved([strokes[k] for k in free], left)
        if told is not None and all(0 <= x <= 1 for x in told):
            shares = [Fraction(int(kind == "1")) for kind in kinds]
            for k, x in zip(free, told):
                shares[k] = x
            found.append(shares)
    return found


def all_whole_points(n, strokes, t=1):
    stretched = [tuple(t * a for a in stroke) for stroke in strokes]
    told = directions(n, stretched)
    ranges = [range(sum(min(0, a[k]) for a in stretched), sum(max(0, a[k]) for a in stretched) + 1) for k in range(n)]
    return [point for point in product(*ranges) if inside(n, stretched, point, told)]


class TestStrokes(unittest.TestCase, Refusals):

    def calls(self, n, strokes):
        return [(check_strokes, (n, strokes)), (planes_of, (n, strokes)), (corners, (n, strokes)),
                (corner, (n, strokes, ())), (greatest, (n, strokes, ())), (placed, (n, strokes, ())),
                (stroke_count, (n, strokes)), (volume, (n, strokes)), (whole_number, (n, strokes, -1)),
                (whole_inner_number, (n, strokes, -1)), (whole_points, (n, strokes)), (pieces, (n, strokes))]

    def test_strokes(self):
        for n, strokes in LISTS:
            self.assertIs(is_strokes(n, strokes), True)
            self.assertIsNone(check_strokes(n, strokes))
        self.assertIs(is_strokes(2, [(100, -100)] * 8), True)

    def test_no_strokes(self):
        for strokes in ([(1, 2)] * 9, [(0, 0)], [(1, 2), (0, 0)], [(101, 1)], [(1, -101)], [(BIG, 1)], [(1,)],
                        [(1, 2, 3)], [()], [(1, 1), (1, 1, 0)]):
            self.assertIs(is_strokes(2, strokes), False)
            for call, arguments in self.calls(2, strokes):
                self.told(NotStrokes, call, *arguments)
        for n in (0, 5, -1, BIG):
            self.told(BadNumber, is_strokes, n, [(0,)])
            for call, arguments in self.calls(n, [(0,)]):
                self.told(BadNumber, call, *arguments)

    def test_planes(self):
        for n, strokes in LISTS:
            due = []
            for stroke in strokes:
                row = tuple(a // gcd(*stroke) for a in stroke) + (0,)
                if row not in due and tuple(-a for a in row) not in due:
                    due.append(row)
            self.assertEqual(planes_of(n, strokes), Planes(n, due))
        self.assertEqual(planes_of(2, [(-2, 4), (3, -6), (0, 5), (0, -1)]), read_planes("2 -1,2,0 0,1,0"))

    def test_strokes_stay_as_they_were(self):
        strokes = [(1, 0), (-2, 3)]
        for call, arguments in self.calls(2, strokes):
            if call in (corners, planes_of, stroke_count, whole_points, pieces):
                call(*arguments)
        placed(2, strokes, pairs(0, 0))
        self.assertEqual(strokes, [(1, 0), (-2, 3)])


class TestCorners(unittest.TestCase, Refusals):

    def test_all_corners(self):
        for n, strokes in LISTS:
            found = set()
            for kinds in product((0, 1), repeat=len(strokes)):
                signs = [tuple(a if kind else -a for a in stroke) for kind, stroke in zip(kinds, strokes)]
                # Some direction is above 0 with all of these exactly if 0 is no sum of them with numbers above 0.
                if self.points_one_way(n, signs):
                    found.add(plus(n, [stroke for kind, stroke in zip(kinds, strokes) if kind]))
            self.assertEqual(corners(n, strokes), sorted(found))

    def points_one_way(self, n, rows):
        """Whether some direction is above 0 with all rows: none of their least dependent parts has one sign."""
        for size in range(1, len(rows) + 1):
            for part in combinations(rows, size):
                if rank(part) == size - 1:
                    kernel = solved(part[1:], [-a for a in part[0]]) if size > 1 else None
                    if kernel is not None and rank(part[1:]) == size - 1 and all(x >= 0 for x in kernel):
                        return False
        return True

    def test_no_strokes(self):
        for n in (1, 2, 3, 4):
            self.assertEqual(corners(n, []), [(0,) * n])
            self.assertEqual(corner(n, [], (0,) * n), (0,) * n)
            self.assertEqual(greatest(n, [], (5,) * n), 0)

    def test_corner_and_greatest(self):
        draw = Random(1)
        for n, strokes in LISTS:
            points = corners(n, strokes)
            for _ in range(30):
                u = tuple(draw.randint(-4, 4) for _ in range(n))
                top = max(value(u, p) for p in points)
                self.assertEqual(greatest(n, strokes, u), top)
                best = [p for p in points if value(u, p) == top]
                if any(value(u, a) == 0 for a in strokes):
                    self.told(NoAnswer, corner, n, strokes, u)
                    self.assertGreater(len(best), 1)
                else:
                    self.assertEqual([corner(n, strokes, u)], best)
        self.assertEqual(greatest(2, EXAMPLE, (BIG, -1)), 2 * BIG - 1)

    def test_directions_that_are_none(self):
        for u in ((), (1,), (1, 2, 3), ((1, 1), (1, 1))):
            self.told(NotPoint, corner, 2, EXAMPLE, u)
            self.told(NotPoint, greatest, 2, EXAMPLE, u)
        self.told(NoAnswer, corner, 2, EXAMPLE, (0, 0))
        self.told(NoAnswer, corner, 2, EXAMPLE, (1, -1))
        self.told(NoAnswer, corner, 2, EXAMPLE, (1, 0))
        self.assertEqual(greatest(2, EXAMPLE, (1, 0)), 2)

    def test_example(self):
        self.assertEqual(corners(2, EXAMPLE), [(0, 0), (0, 1), (1, 0), (1, 2), (2, 1), (2, 2)])

    def test_eight_strokes(self):
        strokes = random_strokes(4, 4, 8, 40)
        self.assertEqual(len(corners(4, strokes)), 128)


class TestPlaced(unittest.TestCase, Refusals):

    def check_in(self, n, strokes, point, told):
        word, shares = told
        self.assertEqual(word, "in")
        shares = fractions(shares)
        self.assertEqual(len(shares), len(strokes))
        self.assertTrue(all(0 <= x <= 1 for x in shares))
        self.assertEqual([dot(shares, [a[k] for a in strokes]) if strokes else 0 for k in range(n)], list(point))

    def check_out(self, n, strokes, point, told):
        word, u = told
        self.assertEqual((word, len(u)), ("out", n))
        self.assertTrue(all(isinstance(a, int) for a in u))
        self.assertGreater(value(u, point), most(strokes, u))

    def test_least_shares(self):
        for seed, (n, strokes) in enumerate(LISTS):
            if len(strokes) > 4:
                continue
            draw = Random(seed)
            points = corners(n, strokes)[:3] + all_whole_points(n, strokes)[:5]
            for _ in range(4):
                shares = [Fraction(draw.randint(0, 4), 4) for _ in strokes]
                points.append(tuple(sum(x * a[k] for x, a in zip(shares, strokes)) for k in range(n)))
            for point in points:
                told = placed(n, strokes, pairs(*point))
                self.check_in(n, strokes, point, told)
                self.assertEqual(fractions(told[1]), min(vertex_shares(n, strokes, point)))

    def test_in_and_out(self):
        kinds = {"in": 0, "out": 0}
        for seed, (n, strokes) in enumerate(LISTS):
            draw = Random(seed)
            for _ in range(12):
                point = tuple(Fraction(draw.randint(-6, 9), draw.randint(1, 4)) for _ in range(n))
                told = placed(n, strokes, pairs(*point))
                kinds[told[0]] += 1
                if inside(n, strokes, point):
                    self.check_in(n, strokes, point, told)
                else:
                    self.check_out(n, strokes, point, told)
            for top in corners(n, strokes)[:4]:
                self.check_in(n, strokes, top, placed(n, strokes, pairs(*top)))
                # A little beyond a corner, as seen from the middle of the body.
                middle = [Fraction(x, 2) for x in plus(n, strokes)]
                far = tuple(x + (x - y) / BIG for x, y in zip(top, middle))
                if far != top:
                    self.check_out(n, strokes, far, placed(n, strokes, pairs(*far)))
        self.assertGreater(min(kinds.values()), 20)

    def test_flat_bodies(self):
        strokes = [(1, 0, 1), (0, 1, 1), (1, 1, 2)]
        self.check_in(3, strokes, (1, 1, 2), placed(3, strokes, pairs(1, 1, 2)))
        self.assertEqual(placed(3, strokes, pairs(1, 1, 2))[1], pairs(0, 0, 1))
        beside = (1, 1, 2 + Fraction(1, BIG))
        self.check_out(3, strokes, beside, placed(3, strokes, pairs(*beside)))
        beside = (1, 1, 2 - Fraction(1, BIG))
        self.check_out(3, strokes, beside, placed(3, strokes, pairs(*beside)))
        self.assertEqual(placed(1, [(2,), (-2,), (4,)], pairs(0)), ("in", pairs(0, 0, 0)))
        self.assertEqual(placed(1, [(2,), (-2,), (4,)], pairs(5)), ("in", pairs("1/2", 0, 1)))
        self.assertEqual(placed(1, [(2,), (2,)], pairs(3)), ("in", pairs("1/2", 1)))
        self.assertEqual(placed(3, [], pairs(0, 0, 0)), ("in", ()))
        self.check_out(3, [], (0, 0, 1), placed(3, [], pairs(0, 0, 1)))

    def test_eight_strokes(self):
        strokes = random_strokes(4, 4, 8, 40)
        point = tuple(Fraction(sum(a[k] * (j + 1) for j, a in enumerate(strokes)), 9) for k in range(4))
        self.check_in(4, strokes, point, placed(4, strokes, pairs(*point)))

    def test_no_point(self):
        for point in ((), pairs(1), pairs(1, 2, 3)) + tuple(((1, 1), x) for x in NO_NUMBERS):
            self.told(NotPoint, placed, 2, EXAMPLE, point)

    def test_example(self):
        self.assertEqual(placed(2, EXAMPLE, pairs(1, 1)), ("in", pairs(0, 0, 1)))


class TestCounts(unittest.TestCase, Refusals):

    def count(self, n, strokes):
        found = []
        for size in range(n + 1):
            total = 0
            for part in combinations(strokes, size):
                minors = [determinant_by_orders([[row[k] for k in letters] for row in part])
                          for letters in combinations(range(n), size)]
                total += gcd(*[int(x) for x in minors])
            found.append(total)
        return found

    def test_counts(self):
        for n, strokes in LISTS + [(4, random_strokes(3, 4, 8, 100)), (2, random_strokes(5, 2, 8, 9))]:
            found = self.count(n, strokes)
            self.assertEqual(stroke_count(n, strokes), found)
            self.assertEqual(volume(n, strokes), found[-1])
            for t in (0, 1, 2, 7, 1000):
                self.assertEqual(whole_number(n, strokes, t), sum(a * t ** k for k, a in enumerate(found)))

    def test_whole_points(self):
        for n, strokes in LISTS:
            points = all_whole_points(n, strokes)
            self.assertEqual(whole_points(n, strokes), points)
            self.assertEqual(whole_number(n, strokes, 1), len(points))
            self.assertEqual(whole_number(n, strokes, 0), 1)
            if n < 3:
                self.assertEqual(whole_number(n, strokes, 2), len(all_whole_points(n, strokes, 2)))

    def test_inner_points(self):
        for n, strokes in LISTS:
            if rank(strokes) < n:
                for t in (1, 5, 1000):
                    self.told(NoAnswer, whole_inner_number, n, strokes, t)
                for t in (0, -1, 1001):
                    self.told(BadNumber, whole_inner_number, n, strokes, t)
                continue
            for t in (1, 2) if n < 3 else (1,):
                stretched = [tuple(t * a for a in stroke) for stroke in strokes]
                told = directions(n, stretched)
                inner = [p for p in all_whole_points(n, strokes, t)
                         if all(value(u, p) < most(stretched, u) for u in told)]
                self.assertEqual(whole_inner_number(n, strokes, t), len(inner))

    def test_numbers_t(self):
        for t in (-1, 1001, BIG):
            self.told(BadNumber, whole_number, 2, EXAMPLE, t)
            self.told(BadNumber, whole_inner_number, 2, EXAMPLE, t)
        self.told(BadNumber, whole_inner_number, 2, EXAMPLE, 0)
        self.assertEqual(whole_number(2, EXAMPLE, 1000), 1 + 3 * 1000 + 3 * 10 ** 6)
        self.assertEqual(whole_inner_number(2, EXAMPLE, 1000), 1 - 3 * 1000 + 3 * 10 ** 6)

    def test_boxes(self):
        self.assertEqual(whole_points(1, [(100,)] * 8), [(k,) for k in range(801)])
        # 40 times 50 whole points are allowed, 2001 are 3 times 667.
        self.assertEqual(len(whole_points(2, [(39, 0), (0, 49)])), 2000)
        wide = [(0, 100)] * 6 + [(2, 66)]
        self.told(TooLarge, whole_points, 2, wide)
        self.assertEqual(len(whole_points(2, [(0, 100)] * 6 + [(2, 65)])), whole_number(2, [(0, 100)] * 6 + [(2, 65)], 1))
        self.told(TooLarge, whole_points, 2, [(-2, -66)] + [(0, 100), (0, -100)] * 3)
        self.assertEqual(whole_points(3, []), [(0, 0, 0)])
        self.assertEqual(whole_points(3, [(0, 4, -2)]), [(0, 0, 0), (0, 2, -1), (0, 4, -2)])

    def test_example(self):
        self.assertEqual(stroke_count(2, EXAMPLE), [1, 3, 3])
        self.assertEqual(volume(2, EXAMPLE), 3)
        self.assertEqual(len(whole_points(2, EXAMPLE)), 7)
        self.assertEqual(whole_inner_number(2, EXAMPLE, 1), 1)


class TestPieces(unittest.TestCase, Refusals):

    def due(self, n, strokes):
        found = []
        for choice in combinations(range(len(strokes)), n):
            rows = [strokes[i] for i in choice]
            if rank(rows) < n:
                continue
            added = []
            for j, stroke in enumerate(strokes):
                if j not in choice:
                    told = [(i, x) for i, x in zip(choice, solved(rows, stroke)) if x]
                    if told[-1][0] > j and told[-1][1] > 0:
                        added.append(stroke)
            found.append((choice, plus(n, added)))
        return found

    def test_choices_and_shifts(self):
        for n, strokes in LISTS:
            due = self.due(n, strokes)
            if not due:
                self.told(NoAnswer, pieces, n, strokes)
                continue
            self.assertEqual(pieces(n, strokes), due)
            sizes = [abs(determinant_by_orders([strokes[i] for i in choice])) for choice, _ in due]
            self.assertEqual(sum(sizes), volume(n, strokes))

    def test_points_in_pieces(self):
        for n, strokes in LISTS:
            if not self.due(n, strokes) or len(strokes) > 5:
                continue
            for point in all_whole_points(n, strokes):
                inner = within = 0
                for choice, shift in pieces(n, strokes):
                    told = solved([strokes[i] for i in choice], [x - y for x, y in zip(point, shift)])
                    within += all(0 <= x <= 1 for x in told)
                    inner += all(0 < x < 1 for x in told)
                self.assertGreater(within, 0)
                self.assertLessEqual(inner, 1)

    def test_example(self):
        self.assertEqual(pieces(2, EXAMPLE), [((0, 1), (0, 0)), ((0, 2), (0, 1)), ((1, 2), (1, 0))])


class TestGraphs(unittest.TestCase, Refusals):

    def test_whole_points_corners_and_choices(self):
        every = [(i, j) for i in range(4) for j in range(i + 1, 4)]
        for edges in ([], every, every[:3], every[1:5], [(2, 3), (0, 1)], [(0, 1), (1, 2), (0, 2)]):
            strokes = graph_strokes(4, edges)
            self.assertEqual(strokes, [tuple(1 if k == i else -1 if k == j else 0 for k in range(4)) for i, j in edges])
            forests = [part for size in range(len(edges) + 1) for part in combinations(edges, size)
                       if self.pieces(part) == 4 - size]
            self.assertEqual(sum(stroke_count(4, strokes)), len(forests))
            sums = {plus(4, part) for size in range(len(edges) + 1) for part in combinations(strokes, size)}
            self.assertEqual(whole_points(4, strokes), sorted(sums))
            self.assertEqual(len(sums), len(forests))
            ways = sum(self.without_rounds([(i, j) if kind else (j, i) for kind, (i, j) in zip(kinds, edges)])
                       for kinds in product((0, 1), repeat=len(edges)))
            self.assertEqual(len(corners(4, strokes)), ways)

    def pieces(self, edges):
        colour = list(range(4))
        for i, j in edges:
            colour = [colour[i] if x == colour[j] else x for x in colour]
        return len(set(colour))

    def without_rounds(self, steps):
        left = set(range(4))
        while left:
            last = [v for v in left if not any(i == v and j in left for i, j in steps)]
            if not last:
                return False
            left -= set(last)
        return True

    def test_no_graphs(self):
        every = [(i, j) for i in range(4) for j in range(i + 1, 4)]
        self.assertEqual(len(graph_strokes(4, every)), 6)
        self.assertEqual(graph_strokes(1, []), [])
        for edges in (every + [(0, 1)], [(0, 1), (0, 1)], [(1, 1)], [(2, 1)], [(0, 3)], [(-1, 1)], [(0, BIG)],
                      [(0, 1, 0)], [(0,)], [()], [(0, 1), (1, 2), (0, 1)]):
            self.told(NotGraph, graph_strokes, 3, edges)
        self.told(NotGraph, graph_strokes, 1, [(0, 1)])
        for n in (0, 5, -1):
            self.told(BadNumber, graph_strokes, n, [(1, 1)])


if __name__ == "__main__":
    unittest.main()

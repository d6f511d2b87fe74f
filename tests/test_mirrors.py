"""[236] and [237]: mirrors, closed lists and their groups, exponents."""

import unittest
from fractions import Fraction
from random import Random

from planeworth.counting import polynomial
from planeworth.errors import BadNumber, NoAnswer, NotRow, TooLarge
from planeworth.families import family
from planeworth.mirrors import exponents, group, is_closed, mirror, rooms_by_distance
from planeworth.moves import Move
from planeworth.planes import Planes, row_of
from planeworth.rooms import rooms
from planeworth.sides import point_of
from planeworth.texts import read_planes
from tests.helpers import (BIG, EXAMPLE, ORIGIN_LISTS, SMALL_LISTS, Refusals, dot, fractions, pairs, random_planes)

CLOSED = [family(word, m) for word, most in (("axes", 4), ("pairs", 4), ("even", 3), ("signs", 3)) for m in
          range(1, most + 1)] + [family("six", 3)]
UNIT = {n: [tuple((int(i == j), 1) for j in range(n)) for i in range(n)] for n in (1, 2, 3, 4)}


def moved(planes, shift):
    """The planes, moved by integers."""
    return Planes(planes.n, [plane[:-1] + (plane[-1] + sum(a * s for a, s in zip(plane, shift)),)
                             for plane in planes.planes()])


CLOSED += [moved(planes, (3, -2, 5, 1)) for planes in CLOSED if planes.n < 4 or len(planes) < 6]
CLOSED += [planes.turned(k) for planes in CLOSED[:16] for k in range(0, len(planes), 2)]
CLOSED += [Planes(planes.n, planes.planes()[::-1]) for planes in CLOSED[6:12]]
CLOSED += [read_planes(text) for text in ("1", "4", "1 2,1", "2 3,4,1 4,-3,7", "2 1,2,0 2,-1,0 3,1,0 1,-3,0",
                                          "3 1,1,1,2 1,-1,0,5", "4 1,-1,0,0,0 0,1,-1,0,0 1,0,-1,0,0 0,0,0,1,7")]
LISTS = SMALL_LISTS + ORIGIN_LISTS + CLOSED + [random_planes(k, n, 4, 3) for k in range(4) for n in (2, 3)]


def reflected(plane, other):
    """The plane that the mirror of the first one leads the second one to, as a tuple of fractions."""
    a, c = plane[:-1], other[:-1]
    much = 2 * Fraction(dot(a, c), dot(a, a))
    return tuple(x - much * y for x, y in zip(other, plane))


def same_points(one, other):
    """Whether tuples of fractions tell the same plane, either way round."""
    return all(one[i] * other[j] == one[j] * other[i] for i in range(len(one)) for j in range(i))


def closed(planes):
    rows = planes.planes()
    return all(any(same_points(reflected(plane, other), third) for third in rows) for plane in rows for other in rows)


def key(move):
    return tuple(move.rows()), move.shift()


class TestMirrors(unittest.TestCase, Refusals):

    def test_points_on_the_other_side(self):
        draw = Random(8)
        for planes in LISTS:
            for at, plane in enumerate(planes.planes()):
                move = mirror(planes, at)
                self.assertIsInstance(move, Move)
                self.assertEqual(move.n, planes.n)
                self.assertEqual(move.undone(), move)
                point = [Fraction(draw.randint(-9, 9), draw.randint(1, 5)) for _ in range(planes.n)]
                image = fractions(move.point(pairs(*point)))
                # The middle lies on the plane, and the way leads along the row of the plane.
                middle = [(x + y) / 2 for x, y in zip(point, image)]
                self.assertEqual(dot(plane[:-1], middle), plane[-1])
                way = [y - x for x, y in zip(point, image)]
                self.assertTrue(all(way[i] * plane[j] == way[j] * plane[i] for i in range(planes.n) for j in range(i)))

    def test_indexes(self):
        for at in (-1, 3, BIG):
            self.told(BadNumber, mirror, EXAMPLE, at)
        self.told(BadNumber, mirror, read_planes("2"), 0)

    def test_formula(self):
        self.assertEqual(mirror(read_planes("2 1,2,3"), 0),
                         Move(2, [pairs("3/5", "-4/5"), pairs("-4/5", "-3/5")], pairs("6/5", "12/5")))


class TestGroups(unittest.TestCase, Refusals):

    def test_closed_lists(self):
        seen = set()
        for planes in LISTS:
            due = closed(planes)
            seen.add((due, planes.n))
            self.assertIs(is_closed(planes), due)
            if not due:
                self.told(NoAnswer, group, planes)
        self.assertEqual(seen, {(True, n) for n in (1, 2, 3, 4)} | {(False, n) for n in (1, 2, 3, 4)})
        self.assertTrue(all(is_closed(planes) for planes in CLOSED))

    def test_a_plane_too_large(self):
        # The mirror leads one plane to one with integers above 1000.
        planes = read_planes("2 1000,999,1000 999,1000,-1000 1,0,0")
        self.assertIs(is_closed(planes), False)
        self.told(NoAnswer, group, planes)

    def test_lists_without_a_plane(self):
        for planes in (family("pairs", 3), family("signs", 2), family("six", 3)):
            for at in range(len(planes)):
                other = planes.without(at)
                self.assertIs(is_closed(other), closed(other))
        self.assertIs(is_closed(family("pairs", 3).without(1)), False)

    def test_groups(self):
        for planes in CLOSED:
            found = group(planes)
            keys = {key(move) for move in found}
            self.assertEqual(len(keys), len(found))
            self.assertEqual(len(found), len(rooms(planes)))
            self.assertEqual(found[0], Move(planes.n, UNIT[planes.n], pairs(*[0] * planes.n)))
            mirrors = [mirror(planes, at) for at in range(len(planes))]
            # As there is a move for each room, these are all that mirrors make.
            for move in found[:8]:
                self.assertTrue(all(key(one.behind(move)) in keys for one in mirrors))
            self.assertTrue(all(key(one) in keys for one in mirrors))

    def test_one_move_for_each_two_rooms(self):
        for planes in CLOSED:
            every = rooms(planes)
            if len(every) > 24:
                continue
            moves = group(planes)
            for room in every:
                point = point_of(planes, room)
                self.assertEqual(sorted(row_of(planes, move.point(point)) for move in moves), every)

    def test_the_largest_group(self):
        planes = family("even", 4)
        self.assertEqual(len(group(planes)), 192)
        self.assertEqual(len({key(move) for move in group(planes)}), 192)

    def test_no_planes(self):
        for n in (1, 2, 3, 4):
            planes = Planes(n, [])
            self.assertIs(is_closed(planes), True)
            found = group(planes)
            self.assertEqual([key(move) for move in found], [(tuple(UNIT[n]), pairs(*[0] * n))])
            found.clear()
            self.assertEqual(len(group(planes)), 1)


class TestExponents(unittest.TestCase, Refusals):

    def roots(self, planes):
        """The roots from 0 to 12 of the polynomial, each as often as it is one, or None."""
        poly, found = polynomial(planes), []
        for root in range(13):
            slope = list(poly)
            # A root of the polynomial and of its slopes is one several times.
            while slope and sum(a * root ** k for k, a in enumerate(slope)) == 0:
                found.append(root)
                slope = [k * a for k, a in enumerate(slope)][1:]
        return tuple(found) if len(found) == planes.n else None

    def test_roots(self):
        seen = set()
        for planes in LISTS + [family("parking", 3), family("above", 4), family("even", 4)]:
            due = self.roots(planes)
            seen.add(due is None)
            if due is None:
                self.told(NoAnswer, exponents, planes)
            else:
                self.assertEqual(exponents(planes), due)
        self.assertEqual(seen, {True, False})
        for planes in CLOSED:
            self.assertEqual(exponents(planes), self.roots(planes))

    def test_several_kinds(self):
        self.assertEqual(exponents(family("even", 4)), (1, 3, 3, 5))
        self.assertEqual(exponents(family("signs", 3)), (1, 3, 5))
        self.assertEqual(exponents(family("six", 3)), (0, 1, 5))
        self.assertEqual(exponents(family("parking", 3)), (4, 4, 4))
        self.assertEqual(exponents(family("pairs", 4)), (0, 1, 2, 3))
        self.assertEqual(exponents(read_planes("1 1,0 1,1 1,2 1,3 1,4 1,5 1,6 1,7 1,8 1,9 1,10 1,11")), (12,))
        self.assertEqual(exponents(read_planes("3")), (0, 0, 0))
        # t t - 3 t + 3, with two roots that are no integers, and the same times t.
        self.told(NoAnswer, exponents, EXAMPLE)
        self.told(NoAnswer, exponents, read_planes("3 1,0,0,0 0,1,0,0 1,1,0,1"))
        # (t - 1) (t t - 3 t + 3)
        self.told(NoAnswer, exponents, read_planes("3 1,0,0,0 0,1,0,0 0,0,1,0 1,1,1,0"))

    def test_rooms_by_distance(self):
        for planes in LISTS:
            every = rooms(planes)
            for room in every[::max(1, len(every) // 5)]:
                found = rooms_by_distance(planes, room)
                far = [sum(a != b for a, b in zip(room, other)) for other in every]
                self.assertEqual(found, [far.count(k) for k in range(max(far) + 1)])

    def test_closed_lists_have_one_row(self):
        for planes in CLOSED:
            due = [1]
            for e in exponents(planes):
                due = [sum(due[k - s] for s in range(e + 1) if 0 <= k - s < len(due)) for k in range(len(due) + e)]
            for room in rooms(planes)[:4]:
                found = rooms_by_distance(planes, room)
                self.assertEqual(found, due)
                found.clear()
                self.assertEqual(rooms_by_distance(planes, room), due)

    def test_errors(self):
        for row in ("", "++", "++++", "+x+"):
            self.told(NotRow, rooms_by_distance, EXAMPLE, row)
        for row in ("--+", "0++", "000"):
            self.told(NoAnswer, rooms_by_distance, EXAMPLE, row)
        large = random_planes(60, 4, 12, 1000)
        far = pairs(10 ** 6, 10 ** 5, -10 ** 7, 3)
        self.told(TooLarge, rooms_by_distance, large, row_of(large, far))
        self.told(NotRow, rooms_by_distance, large, "+")
        self.told(NoAnswer, rooms_by_distance, large, "0" * 12)
        self.assertEqual(rooms_by_distance(read_planes("2"), ""), [1])

    def test_example(self):
        planes = family("signs", 2)
        self.assertEqual((exponents(planes), len(rooms(planes))), ((1, 3), 8))
        self.assertEqual(rooms_by_distance(planes, rooms(planes)[3]), [1, 2, 2, 2, 1])


if __name__ == "__main__":
    unittest.main()

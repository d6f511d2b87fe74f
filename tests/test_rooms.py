"""[60] to [72]: rooms and faces, ways, what is bounded."""

import unittest
from fractions import Fraction
from random import Random

from planeworth.errors import BadNumber, NoAnswer, NotNumber, NotPoint, NotRow, TooLarge
from planeworth.planes import Planes, opposite
from planeworth.rooms import (belongs, count_ways, decide_bounded, distance, face_dimension, faces, faces_of,
                              faces_of_dimension, first_way, is_bounded, is_direction, is_hold, is_room, neighbours,
                              product_of_rows, rooms, rooms_at, walls)
from planeworth.sides import is_shown
from planeworth.texts import read_planes
from tests.helpers import (EXAMPLE, NO_NUMBERS, SMALL_LISTS, Refusals, all_rows, dot, figures, fractions, pairs,
                           random_planes, reduced, row_at)

LISTS = SMALL_LISTS + [random_planes(50 + n, n, 5, 4) for n in (1, 2, 3, 4)]
TURN = {"+": "-", "-": "+", "0": "0"}
WRONG_ROWS = ("", "++", "++++", "++x", "+ -", "0", "+0", "++0-", "0+x")

# More planes: mirrors in three and four letters, and some that are parallel.
D4 = read_planes("4 " + " ".join(",".join("1" if k == i else s if k == j else "0" for k in range(5))
                                 for i in range(4) for j in range(i + 1, 4) for s in ("1", "-1")))
B3 = read_planes("3 1,0,0,0 0,1,0,0 0,0,1,0 1,-1,0,0 1,1,0,0 1,0,-1,0 1,0,1,0 0,1,-1,0 0,1,1,0")
ROOMS_400 = read_planes("4 1,0,0,-1,-1 1,0,-1,0,0 1,0,0,1,0 0,0,0,1,1 -1,0,-1,1,0 0,0,-1,1,-1 0,0,0,1,0 0,-1,1,0,-1 "
                        "0,0,1,-1,0 -1,0,-1,1,-1 0,-1,0,1,1 0,0,1,0,-1")
ROOMS_401 = read_planes("4 0,0,0,1,1 0,-1,1,0,0 1,0,0,-2,0 -2,2,-1,1,2 -2,0,0,2,1 0,2,-1,0,0 -2,2,-2,2,1 2,0,0,0,1 "
                        "-1,0,0,-1,0 2,1,1,-1,1 1,0,-2,0,-1")
FACES_1999 = read_planes("4 0,1,-1,-1,0 -1,1,0,0,0 0,0,-1,1,0 0,0,-1,-1,1 1,0,0,0,0 0,0,0,-1,0 0,0,-1,0,0 0,-1,0,0,1 "
                         "1,0,-1,-1,1 0,0,0,-1,1 -1,0,1,0,-1")
FACES_2001 = read_planes("4 -2,0,1,0,0 0,0,1,-2,-1 -1,0,0,-2,2 0,0,1,1,0 -2,0,-2,0,-1 1,0,-1,2,0 1,-2,0,-2,-2 "
                         "0,1,0,-1,0 0,0,1,-1,0")
GRID = Planes(2, [(1, 0, k) for k in range(5)] + [(0, 1, k) for k in range(5)])


def put_before(one, other):
    return "".join(b if a == "0" else a for a, b in zip(one, other))


def parted(one, other):
    return [k for k in range(len(one)) if {one[k], other[k]} == {"+", "-"}]


class Found:
    """The faces and rooms of a list, found by is_shown for each row of signs."""

    def __init__(self, planes):
        self.planes = planes
        self.faces = [row for row in all_rows(len(planes)) if is_shown(planes, row)]
        self.rooms = [row for row in self.faces if "0" not in row]

    def dimension(self, face):
        zero = [row[:-1] for row, letter in zip(self.planes.planes(), face) if letter == "0"]
        return self.planes.n - len(reduced(zero))


FOUND = [Found(planes) for planes in LISTS]


class TestLists(unittest.TestCase, Refusals):

    def test_each_row_that_is_shown_is_there_once_in_order(self):
        for found in FOUND:
            self.assertEqual(rooms(found.planes), found.rooms)
            self.assertEqual(faces(found.planes), found.faces)
            for d in range(found.planes.n + 1):
                want = [face for face in found.faces if found.dimension(face) == d]
                self.assertEqual(faces_of_dimension(found.planes, d), want)
            self.assertEqual(faces_of_dimension(found.planes, found.planes.n), found.rooms)
            self.assertIsInstance(rooms(found.planes), list)

    def test_the_order_of_the_signs(self):
        self.assertEqual(faces(Planes(1, [(1, 0)])), ["+", "-", "0"])
        self.assertEqual(rooms(EXAMPLE), ["+++", "++-", "+-+", "+--", "-++", "-+-", "---"])
        self.assertEqual(faces(EXAMPLE)[:3], ["+++", "++-", "++0"])

    def test_without_planes(self):
        for n in range(1, 5):
            self.assertEqual(rooms(Planes(n, [])), [""])
            self.assertEqual(faces(Planes(n, [])), [""])
            self.assertEqual(faces_of_dimension(Planes(n, []), n), [""])
            self.assertEqual(faces_of_dimension(Planes(n, []), n - 1), [])

    def test_points_have_faces(self):
        draw = Random(1)
        for planes in (B3, GRID, D4):
            told = faces(planes)
            self.assertEqual(len(told), len(set(told)))
            for _ in range(60):
                point = [Fraction(draw.randint(-4, 4), draw.randint(1, 2)) for _ in range(planes.n)]
                self.assertIn(row_at(planes, point), told)

    def test_known_numbers(self):
        self.assertEqual(len(rooms(B3)), 48)
        self.assertEqual(len(rooms(D4)), 192)
        self.assertEqual(len(faces(B3)), 147)
        self.assertEqual(len(rooms(GRID)), 36)
        self.assertEqual(len(faces(GRID)), 121)
        for planes in (B3, D4, GRID):
            told = faces(planes)
            self.assertEqual(sum((-1) ** face_dimension(planes, face) for face in told), (-1) ** planes.n)

    def test_how_many_are_told(self):
        # Three planes for each of four letters, at right angles to its axis.
        product = Planes(4, [tuple(int(k == i) for k in range(4)) + (b,) for i in range(4) for b in range(3)])
        self.assertEqual(len(rooms(product)), 256)
        self.told(TooLarge, faces, product)
        self.told(TooLarge, faces_of_dimension, product, 0)
        self.told(BadNumber, faces_of_dimension, product, -1)
        self.told(BadNumber, faces_of_dimension, product, 5)
        generic = random_planes(60, 4, 12, 1000)
        self.told(TooLarge, rooms, generic)
        self.told(TooLarge, faces, generic)

    def test_the_bounds_are_sharp(self):
        self.assertEqual(len(rooms(ROOMS_400)), 400)
        self.told(TooLarge, rooms, ROOMS_401)
        self.assertEqual(len(faces(FACES_1999)), 1999)
        self.assertEqual(sum(len(faces_of_dimension(FACES_1999, d)) for d in range(5)), 1999)
        # The number of faces is odd, as their signs add up to 1 or -1, so no list has 2000.
        self.told(TooLarge, faces, FACES_2001)
        self.told(TooLarge, faces_of_dimension, FACES_2001, 4)
        self.assertLess(len(rooms(FACES_2001)), 400)

    def test_planes_in_general_position(self):
        numbers = {}
        for many in range(8, 13):
            try:
                numbers[many] = len(rooms(random_planes(60, 4, many, 1000)))
            except TooLarge:
                numbers[many] = None
        self.assertEqual(numbers, {8: 163, 9: 256, 10: 386, 11: None, 12: None})
        self.assertEqual(len(faces(random_planes(60, 4, 8, 1000))), 1697)
        self.told(TooLarge, faces, random_planes(60, 4, 9, 1000))

    def test_dimensions_that_are_none(self):
        for d in (-1, 3, 4, -5):
            self.told(BadNumber, faces_of_dimension, EXAMPLE, d)


class TestRows(unittest.TestCase, Refusals):

    def test_is_room_and_dimension(self):
        for found in FOUND:
            for row in all_rows(len(found.planes)):
                self.assertIs(is_room(found.planes, row), row in found.rooms)
                if row in found.faces:
                    self.assertEqual(face_dimension(found.planes, row), found.dimension(row))
                else:
                    self.told(NoAnswer, face_dimension, found.planes, row)

    def test_products(self):
        draw = Random(2)
        for found in FOUND:
            shown = set(found.faces)
            for _ in range(60):
                f, g, h = (draw.choice(found.faces) for _ in range(3))
                room = draw.choice(found.rooms)
                fg = product_of_rows(found.planes, f, g)
                self.assertEqual(fg, put_before(f, g))
                self.assertIn(fg, shown)
                self.assertIn(product_of_rows(found.planes, f, room), found.rooms)
                self.assertEqual(product_of_rows(found.planes, f, f), f)
                self.assertEqual(product_of_rows(found.planes, fg, f), fg)
                self.assertEqual(product_of_rows(found.planes, fg, h),
                                 product_of_rows(found.planes, f, product_of_rows(found.planes, g, h)))

    def test_products_of_rows_that_are_not_shown(self):
        self.assertEqual(product_of_rows(EXAMPLE, "-0+", "--+"), "--+")
        self.assertEqual(product_of_rows(EXAMPLE, "000", "--+"), "--+")
        self.assertEqual(product_of_rows(EXAMPLE, "0-0", "+++"), "+-+")

    def test_not_row(self):
        for row in WRONG_ROWS:
            for call in (is_room, face_dimension, walls, neighbours, faces_of, rooms_at, is_bounded, decide_bounded):
                self.told(NotRow, call, EXAMPLE, row)
            for call in (product_of_rows, distance, first_way, count_ways, belongs):
                for other in ("+++", "--+", "0-+", row):
                    self.told(NotRow, call, EXAMPLE, row, other)
                    self.told(NotRow, call, EXAMPLE, other, row)

    def test_no_answer(self):
        for row in ("--+", "++0", "000"):
            for call in (walls, neighbours):
                self.told(NoAnswer, call, EXAMPLE, row)
            self.told(NoAnswer, faces_of, EXAMPLE, row)
            for call in (distance, first_way, count_ways):
                self.told(NoAnswer, call, EXAMPLE, row, "+++")
                self.told(NoAnswer, call, EXAMPLE, "+++", row)
            self.told(NoAnswer, belongs, EXAMPLE, "+++", row)
        for row in ("--+", "000", "-0+"):
            for call in (face_dimension, rooms_at, is_bounded, decide_bounded):
                self.told(NoAnswer, call, EXAMPLE, row)
            self.told(NoAnswer, belongs, EXAMPLE, row, "+++")


class TestWays(unittest.TestCase, Refusals):

    def test_distance_walls_and_neighbours(self):
        for found in FOUND:
            planes = found.planes
            for room in found.rooms:
                there = set(found.faces)
                want = tuple(k for k in range(len(planes)) if room[:k] + "0" + room[k + 1:] in there)
                self.assertEqual(walls(planes, room), want)
                beyond = [room[:k] + TURN[room[k]] + room[k + 1:] for k in want]
                self.assertEqual(neighbours(planes, room), beyond)
                self.assertEqual(sorted(beyond), [c for c in found.rooms if len(parted(room, c)) == 1])
            for one in found.rooms[:8]:
                for other in found.rooms:
                    self.assertEqual(distance(planes, one, other), len(parted(one, other)))

    def shortest_ways(self, found, one, other):
        """All shortest ways, found step by step."""
        if one == other:
            return [[one]]
        steps = [c for c in found.rooms
                 if len(parted(one, c)) == 1 and len(parted(c, other)) == len(parted(one, other)) - 1]
        return [[one] + way for c in steps for way in self.shortest_ways(found, c, other)]

    def test_ways(self):
        draw = Random(3)
        for found in FOUND:
            for _ in range(25):
                one, other = draw.choice(found.rooms), draw.choice(found.rooms)
                ways = self.shortest_ways(found, one, other)
                self.assertGreater(len(ways), 0)
                self.assertEqual(count_ways(found.planes, one, other), len(ways))
                first = min(ways, key=lambda way: [parted(a, b)[0] for a, b in zip(way, way[1:])])
                self.assertEqual(first_way(found.planes, one, other), first)
                self.assertEqual(len(first), distance(found.planes, one, other) + 1)

    def test_a_way_to_the_room_itself(self):
        self.assertEqual(first_way(EXAMPLE, "+++", "+++"), ["+++"])
        self.assertEqual(count_ways(EXAMPLE, "+++", "+++"), 1)
        self.assertEqual(distance(EXAMPLE, "+++", "+++"), 0)
        self.assertEqual(first_way(Planes(2, []), "", ""), [""])

    def test_ways_through_many_rooms(self):
        # A way across the grid has five steps for either letter, in any order: 10 over 5.
        self.assertEqual(count_ways(GRID, "-" * 10, "+" * 10), 252)
        # These are the numbers of shortest words for the longest move of both groups of mirrors.
        self.assertEqual(count_ways(B3, rooms(B3)[0], opposite(B3, rooms(B3)[0])), 42)
        first = rooms(D4)[0]
        self.assertEqual(count_ways(D4, first, opposite(D4, first)), 2316)
        generic = random_planes(60, 4, 12, 1000)
        room = row_at(generic, [Fraction(0)] * 4)
        self.assertEqual(first_way(generic, room, room), [room])
        far = row_at(generic, [Fraction(10 ** 6), Fraction(5 * 10 ** 5), Fraction(-10 ** 6), Fraction(7)])
        self.assertEqual(len(first_way(generic, room, far)), distance(generic, room, far) + 1)


class TestBelongs(unittest.TestCase, Refusals):

    def test_against_all_rooms(self):
        for found in FOUND:
            planes = found.planes
            for face in found.faces[::3]:
                want = [c for c in found.rooms if put_before(face, c) == c]
                self.assertEqual(rooms_at(planes, face), want)
                alone = planes.only(tuple(k for k, letter in enumerate(face) if letter == "0"))
                self.assertEqual(len(want), len(rooms(alone)))
                for room in found.rooms[::4]:
                    self.assertIs(belongs(planes, face, room), room in want)
            for room in found.rooms[::3]:
                want = [f for f in found.faces if put_before(f, room) == room]
                self.assertEqual(faces_of(planes, room), want)

    def test_the_nearest_room(self):
        for found in FOUND:
            for face in found.faces[::4]:
                for room in found.rooms[::3]:
                    near = put_before(face, room)
                    for other in rooms_at(found.planes, face):
                        self.assertEqual(len(parted(room, other)), len(parted(room, near)) + len(parted(near, other)))

    def test_order_of_errors(self):
        self.told(NotRow, belongs, EXAMPLE, "--+", "++")
        self.told(NotRow, belongs, EXAMPLE, "++", "--+")
        self.told(NoAnswer, belongs, EXAMPLE, "--+", "+++")
        self.told(NoAnswer, belongs, EXAMPLE, "+++", "--+")

    def test_faces_of_a_room_of_many_planes(self):
        generic = random_planes(60, 4, 12, 1000)
        room = row_at(generic, [Fraction(0)] * 4)
        told = faces_of(generic, room)
        self.assertIn(room, told)
        self.assertTrue(all(is_shown(generic, face) for face in told[:30]))
        self.assertEqual(len([face for face in told if face.count("0") == 1]), len(walls(generic, room)))


class TestLeavingOut(unittest.TestCase):

    def test_a_plane_left_out(self):
        for found in FOUND:
            for at in range(len(found.planes)):
                alone = [f for f in found.faces if f[at] == "0" and f.count("0") == 1]
                self.assertEqual(len(found.rooms), len(rooms(found.planes.without(at))) + len(alone))

    def test_planes_that_all_meet(self):
        seen = 0
        for found in FOUND:
            if found.planes.is_central():
                seen += 1
                for face in found.faces:
                    self.assertIn(opposite(found.planes, face), found.faces)
                for one in found.rooms:
                    for other in found.rooms:
                        far = opposite(found.planes, other)
                        self.assertEqual(distance(found.planes, one, other) + distance(found.planes, one, far),
                                         len(found.planes))
        self.assertGreater(seen, 4)


class TestBounded(unittest.TestCase, Refusals):

    def is_hold(self, planes, face, ys):
        signs = all(c == "0" or (y > 0) == (c == "+") and y != 0 for c, y in zip(face, ys))
        rows = [plane[:-1] for plane in planes.planes()]
        return signs and all(dot(ys, [row[k] for row in rows]) == 0 for k in range(planes.n))

    def is_direction(self, planes, face, v):
        values = [dot(plane[:-1], v) for plane in planes.planes()]
        fits = {"+": lambda x: x >= 0, "-": lambda x: x <= 0, "0": lambda x: x == 0}
        return any(values) and all(fits[c](x) for c, x in zip(face, values))

    def test_each_face_has_exactly_one_of_both(self):
        kinds = []
        for planes in LISTS + [B3, GRID]:
            for face in faces(planes):
                word, thing = decide_bounded(planes, face)
                self.assertIsInstance(thing, tuple)
                self.assertLessEqual(figures(thing), 400)
                if word == "hold":
                    self.assertEqual(len(thing), len(planes))
                    self.assertTrue(self.is_hold(planes, face, fractions(thing)))
                    self.assertIs(is_hold(planes, face, thing), True)
                else:
                    self.assertEqual(word, "direction")
                    self.assertEqual(len(thing), planes.n)
                    self.assertTrue(self.is_direction(planes, face, fractions(thing)))
                    self.assertIs(is_direction(planes, face, thing), True)
                self.assertIs(is_bounded(planes, face), word == "hold")
                kinds.append(word)
        self.assertGreater(kinds.count("hold"), 50)
        self.assertGreater(kinds.count("direction"), 50)

    def test_large_integers(self):
        planes = random_planes(70, 4, 12, 1000)
        for at in range(4):
            room = row_at(planes, [Fraction(at), Fraction(-at, 3), Fraction(1, 7), Fraction(at * at, 5)])
            word, thing = decide_bounded(planes, room)
            self.assertLessEqual(figures(thing), 400)
            self.assertTrue((self.is_hold if word == "hold" else self.is_direction)(planes, room, fractions(thing)))

    def test_sums_over_faces(self):
        for found in FOUND:
            n, rank = found.planes.n, found.planes.rank()
            self.assertEqual(sum((-1) ** found.dimension(face) for face in found.faces), (-1) ** n)
            for room in found.rooms:
                total = sum((-1) ** found.dimension(face) for face in faces_of(found.planes, room))
                self.assertEqual(total, (-1) ** (n - rank) if is_bounded(found.planes, room) else 0)

    def test_lists_whose_rank_is_less(self):
        planes = read_planes("2 1,0,0 1,0,1")
        self.assertEqual([is_bounded(planes, room) for room in rooms(planes)], [False, True, False])
        self.assertIs(is_hold(planes, "+-", pairs(1, -1)), True)
        self.assertIs(is_direction(planes, "+-", pairs(0, 1)), False)
        self.assertIs(is_direction(planes, "++", pairs(1, 5)), True)
        self.assertEqual(decide_bounded(Planes(3, []), ""), ("hold", ()))
        self.assertIs(is_direction(Planes(3, []), "", pairs(1, 0, 0)), False)

    def test_holds_and_directions_that_are_none(self):
        self.assertIs(is_hold(EXAMPLE, "++-", pairs(1, 1, -1)), True)
        self.assertIs(is_hold(EXAMPLE, "++-", pairs("1/3", "1/3", "-1/3")), True)
        for ys in ((1, 1, -2), (-1, -1, 1), (0, 0, 0), (1, 1, 1), (1, 0, -1)):
            self.assertIs(is_hold(EXAMPLE, "++-", pairs(*ys)), False)
        self.assertIs(is_hold(EXAMPLE, "0+0", pairs(1, 1, -1)), True)
        self.assertIs(is_hold(EXAMPLE, "00-", pairs(1, 1, -1)), True)
        self.assertIs(is_hold(EXAMPLE, "00-", pairs(0, 0, 0)), False)
        for v, want in (((1, 1), True), ((1, 0), True), ((0, 1), True), ((0, 0), False), ((-1, 3), False),
                        ((-1, -1), False), (("1/9", 7), True)):
            self.assertIs(is_direction(EXAMPLE, "+++", pairs(*v)), want)
        self.assertIs(is_direction(EXAMPLE, "+0+", pairs(1, 0)), True)
        self.assertIs(is_direction(EXAMPLE, "+0+", pairs(1, 1)), False)
        self.assertIs(is_direction(EXAMPLE, "++-", pairs(1, 0)), False)

    def test_against_the_words_of_the_document(self):
        draw = Random(4)
        for found in FOUND:
            for _ in range(30):
                face = draw.choice(found.faces)
                ys = [Fraction(draw.randint(-2, 2), draw.randint(1, 2)) for _ in found.planes.planes()]
                v = [Fraction(draw.randint(-2, 2), draw.randint(1, 2)) for _ in range(found.planes.n)]
                self.assertIs(is_hold(found.planes, face, pairs(*ys)), self.is_hold(found.planes, face, ys))
                self.assertIs(is_direction(found.planes, face, pairs(*v)), self.is_direction(found.planes, face, v))

    def test_order_of_errors(self):
        wrong = (2, 4)
        for row in WRONG_ROWS:
            self.told(NotRow, is_hold, EXAMPLE, row, (wrong,))
            self.told(NotRow, is_direction, EXAMPLE, row, (wrong,))
        self.told(NoAnswer, is_hold, EXAMPLE, "--+", (wrong,))
        self.told(NoAnswer, is_direction, EXAMPLE, "--+", (wrong,))
        for ys in ((), (wrong,), (wrong,) * 4, pairs(0, 0), pairs(0, 0, 0, 0)):
            self.told(BadNumber, is_hold, EXAMPLE, "+++", ys)
        for x in NO_NUMBERS:
            self.told(NotNumber, is_hold, EXAMPLE, "+++", ((0, 1), x, (-1, 1)))
            self.told(NotPoint, is_direction, EXAMPLE, "+++", (x, (1, 1)))
        for v in ((), pairs(1), pairs(1, 2, 3)):
            self.told(NotPoint, is_direction, EXAMPLE, "+++", v)


class TestExample(unittest.TestCase):

    def test_faces(self):
        self.assertEqual(len(faces(EXAMPLE)), 19)
        self.assertEqual([len(faces_of_dimension(EXAMPLE, d)) for d in range(3)], [3, 9, 7])
        self.assertEqual([room for room in rooms(EXAMPLE) if is_bounded(EXAMPLE, room)], ["++-"])
        self.assertEqual(walls(EXAMPLE, "++-"), (0, 1, 2))
        self.assertEqual(walls(EXAMPLE, "+++"), (0, 1, 2))
        self.assertEqual(faces_of(EXAMPLE, "++-"), ["++-", "++0", "+0-", "+00", "0+-", "0+0", "00-"])
        self.assertNotIn(3, [distance(EXAMPLE, "++-", room) for room in rooms(EXAMPLE)])

    def test_lists_that_are_returned_may_be_changed(self):
        for call in (rooms, faces):
            call(EXAMPLE).clear()
            self.assertGreater(len(call(EXAMPLE)), 6)
        way = first_way(EXAMPLE, "+++", "---") if is_room(EXAMPLE, "---") else []
        self.assertEqual(len(way), 4)
        way.clear()
        self.assertEqual(len(first_way(EXAMPLE, "+++", "---")), 4)


if __name__ == "__main__":
    unittest.main()

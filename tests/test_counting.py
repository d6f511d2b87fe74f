"""[84] to [93]: polynomials, numbers of rooms and faces, shrunk lists, sections, small fields."""

import unittest
from fractions import Fraction
from itertools import product
from math import gcd

from planeworth.counting import (bounded_number, faces_numbers, is_good, points_over, polynomial, rooms_number, section,
                                 shrunk, shrunk_from, value_at)
from planeworth.errors import BadNumber, NoAnswer, TooLarge
from planeworth.moves import coned, joined
from planeworth.planes import Planes
from planeworth.rooms import face_dimension, faces, is_bounded, rooms
from planeworth.texts import read_planes
from tests.helpers import BIG, EXAMPLE, SMALL_LISTS, Refusals, Told, all_indexes, random_planes

CENTRAL = [read_planes(text) for text in (
    "2 1,0,0", "2 1,0,0 0,1,0 1,1,0 2,-3,0", "3 0,1,0,0 1,1,0,0", "3 1,0,0,0 0,1,0,0 0,0,1,0 1,1,1,0 1,-1,0,0",
    "3 0,-2,1,0 1,1,0,0 3,0,-1,0 0,0,1,0", "4 1,0,0,0,0 0,1,0,0,0 -1,0,1,0,0 0,0,1,-1,0 2,0,0,1,0",
    "4 0,0,5,1,0 0,0,1,0,0 0,3,1,1,0")]
LISTS = SMALL_LISTS + CENTRAL + [random_planes(30 + n, n, 5, most) for n in (1, 2, 3, 4) for most in (2, 1000)]


def times_poly(one, other):
    made = [0] * (len(one) + len(other) - 1)
    for i, a in enumerate(one):
        for j, b in enumerate(other):
            made[i + j] += a * b
    return made


def less_poly(one, other):
    """The difference of two lists, the second one of which may be shorter."""
    return [a - b for a, b in zip(one, other + [0] * (len(one) - len(other)))]


def told_on(plane, row):
    """What a row tells on a plane, letter by letter, as a plane of the letters that are left; or None."""
    j = next(k for k, a in enumerate(plane) if a)
    places = [k for k in range(len(plane)) if k != j]
    entries = [Fraction(row[k]) - Fraction(row[j] * plane[k], plane[j]) for k in places]
    if not any(entries[:-1]):
        return None
    below = 1
    for x in entries:
        below = below * x.denominator // gcd(below, x.denominator)
    whole = [int(x * below) for x in entries]
    return tuple(a // gcd(*whole) for a in whole)


def due(planes, at, plane):
    """The planes on a plane that are due, and of which indexes each of them comes."""
    found = []
    for k, row in enumerate(planes.planes()):
        entries = None if k == at else told_on(plane, row)
        if entries is None:
            continue
        turned = tuple(-a for a in entries)
        same = [pair for pair in found if pair[0] in (entries, turned)]
        if same:
            same[0][1].append(k)
        else:
            found.append((entries, [k]))
    return [entries for entries, _ in found], [tuple(indexes) for _, indexes in found]


class TestPolynomial(unittest.TestCase):

    def test_the_weights_added_up(self):
        for planes in LISTS:
            told = Told(planes)
            poly = [0] * (planes.n + 1)
            for flat, much in told.weights().items():
                poly[planes.n - told.rank(flat)] += much
            self.assertEqual(polynomial(planes), poly)
            self.assertEqual(poly[-1], 1)
            self.assertIsInstance(polynomial(planes), list)

    def test_value_at(self):
        for poly in ([], [0], [5], [3, -3, 1], [-2, 1], [1, 0, 0, -7], [BIG, -BIG, 2]):
            for t in (0, 1, -1, 2, -5, 30, BIG):
                self.assertEqual(value_at(poly, t), sum(a * t ** k for k, a in enumerate(poly)))
        self.assertEqual(value_at([], 7), 0)
        poly = [1, 2]
        value_at(poly, 3)
        self.assertEqual(poly, [1, 2])

    def test_numbers_of_rooms(self):
        for planes in LISTS:
            all_rooms = rooms(planes)
            poly = polynomial(planes)
            self.assertEqual(rooms_number(planes), len(all_rooms))
            self.assertEqual(rooms_number(planes), (-1) ** planes.n * value_at(poly, -1))
            bounded = [room for room in all_rooms if is_bounded(planes, room)]
            self.assertEqual(bounded_number(planes), len(bounded))
            self.assertEqual(bounded_number(planes), (-1) ** planes.rank() * value_at(poly, 1))

    def test_bounded_without_the_full_rank(self):
        self.assertEqual(bounded_number(read_planes("2 1,0,0 1,0,1 1,0,2")), 2)
        self.assertEqual(bounded_number(read_planes("4")), 1)
        self.assertEqual(bounded_number(read_planes("2 1,0,0 1,1,0")), 0)

    def test_numbers_of_faces(self):
        for planes in LISTS:
            numbers = [0] * (planes.n + 1)
            for face in faces(planes):
                numbers[face_dimension(planes, face)] += 1
            self.assertEqual(faces_numbers(planes), numbers)

    def test_twelve_planes(self):
        planes = random_planes(60, 4, 12, 1000)
        self.assertEqual(polynomial(planes), [495, -220, 66, -12, 1])
        self.assertEqual((rooms_number(planes), bounded_number(planes)), (794, 330))
        self.assertEqual(faces_numbers(planes), [495, 2200, 3696, 2784, 794])
        axes = read_planes("4 1,0,0,0,0 1,0,0,0,1 1,0,0,0,2 0,1,0,0,0 0,1,0,0,1 0,1,0,0,2 "
                           "0,0,1,0,0 0,0,1,0,1 0,0,1,0,2 0,0,0,1,0 0,0,0,1,1 0,0,0,1,2")
        self.assertEqual(polynomial(axes), [81, -108, 54, -12, 1])
        self.assertEqual(faces_numbers(axes), [81, 432, 864, 768, 256])

    def test_joined_and_cone(self):
        for one, other in ((EXAMPLE, read_planes("2 1,0,0 1,1,3")), (read_planes("1"), EXAMPLE),
                           (read_planes("1 1,0 1,1"), read_planes("3 1,0,0,0 0,1,1,5 1,1,1,2"))):
            both = times_poly(polynomial(one), polynomial(other))
            self.assertEqual(polynomial(joined(one, other)), both)
        for planes in LISTS:
            if planes.n < 4:
                self.assertEqual(polynomial(coned(planes)), times_poly(polynomial(planes), [-1, 1]))


class TestShrunk(unittest.TestCase, Refusals):

    def test_the_planes_that_are_due(self):
        many = 0
        for planes in LISTS:
            for at, plane in enumerate(planes.planes()):
                if planes.n == 1:
                    continue
                rows, indexes = due(planes, at, plane)
                if any(abs(a) > 1000 for row in rows for a in row):
                    self.told(TooLarge, shrunk, planes, at)
                    self.told(TooLarge, shrunk_from, planes, at)
                    continue
                many += 1
                self.assertEqual(shrunk(planes, at).planes(), rows)
                self.assertEqual(shrunk(planes, at).n, planes.n - 1)
                self.assertEqual(shrunk_from(planes, at), indexes)
                both = less_poly(polynomial(planes.without(at)), polynomial(shrunk(planes, at)))
                self.assertEqual(polynomial(planes), both)
                total = rooms_number(planes.without(at)) + rooms_number(shrunk(planes, at))
                self.assertEqual(rooms_number(planes), total)
        self.assertGreater(many, 60)

    def test_left_out_and_merged(self):
        planes = read_planes("2 0,-2,1 1,0,0 0,1,3 2,2,-1 -1,2,-1 1,1,1")
        # On x2 = -1/2: x1 = 0; nothing; 2 x1 = 0; -x1 = 0, the other way round; x1 = 3/2.
        self.assertEqual(shrunk(planes, 0), Planes(1, [(1, 0), (2, 3)]))
        self.assertEqual(shrunk_from(planes, 0), [(1, 3, 4), (5,)])
        other_way = read_planes("2 0,-2,1 -1,2,-1 1,0,0")
        self.assertEqual(shrunk(other_way, 0).planes(), [(-1, 0)])
        self.assertEqual(shrunk_from(other_way, 0), [(1, 2)])

    def test_negative_entries_keep_the_way_round(self):
        self.assertEqual(shrunk(read_planes("2 -1,-1,-1 1,0,0"), 0).planes(), [(-1, -1)])
        self.assertEqual(shrunk(read_planes("2 1,1,1 1,0,0"), 0).planes(), [(-1, -1)])
        self.assertEqual(shrunk(read_planes("2 0,-3,1 2,1,0"), 0).planes(), [(6, 1)])

    def test_errors_in_their_order(self):
        line = read_planes("1 1,0 1,1")
        for call in (shrunk, shrunk_from, section):
            for at in (-1, 3, BIG):
                self.told(BadNumber, call, EXAMPLE, at)
            self.told(BadNumber, call, line, 2)
            self.told(BadNumber, call, read_planes("1"), 0)
            self.told(NoAnswer, call, line, 1)
            self.told(NoAnswer, call, read_planes("1 1,0"), 0)

    def test_too_large(self):
        # On x1 = 40 x2 the second plane has the entry 40 * 25 and what it has for x2.
        self.assertEqual(shrunk(Planes(2, [(1, -40, 0), (25, 0, 1)]), 0).planes(), [(1000, 1)])
        for call in (shrunk, shrunk_from):
            self.told(TooLarge, call, Planes(2, [(1, -40, 0), (25, 1, 1)]), 0)
            self.told(TooLarge, call, Planes(2, [(1, 0, -40), (25, 1, 1)]), 0)
        self.assertEqual(shrunk(Planes(2, [(1, 0, -40), (25, 1, 0)]), 0).planes(), [(1, 1000)])
        self.assertEqual(shrunk_from(Planes(2, [(1, 0, -40), (25, 1, 0)]), 0), [(1,)])

    def test_example(self):
        self.assertEqual(polynomial(EXAMPLE), [3, -3, 1])
        self.assertEqual((rooms_number(EXAMPLE), bounded_number(EXAMPLE)), (7, 1))
        self.assertEqual(shrunk(EXAMPLE, 2).planes(), [(-1, -1), (1, 0)])
        self.assertEqual(shrunk_from(EXAMPLE, 2), [(0,), (1,)])
        self.assertEqual(polynomial(shrunk(EXAMPLE, 2)), [-2, 1])
        self.assertEqual(polynomial(EXAMPLE.without(2)), [1, -2, 1])


class TestSection(unittest.TestCase, Refusals):

    def test_the_planes_that_are_due(self):
        for planes in CENTRAL:
            for at, plane in enumerate(planes.planes()):
                rows, _ = due(planes, at, plane[:-1] + (1,))
                self.assertEqual(section(planes, at), Planes(planes.n - 1, rows))
                self.assertEqual(len(rows), len(planes) - 1)
                self.assertEqual(times_poly(polynomial(section(planes, at)), [-1, 1]), polynomial(planes))

    def test_no_answer(self):
        self.told(NoAnswer, section, EXAMPLE, 0)
        self.told(NoAnswer, section, read_planes("2 1,0,0 1,1,1"), 0)
        # Another plane through no point 0 is refused ahead of what is too large.
        self.told(NoAnswer, section, Planes(2, [(1, -40, 0), (27, 1, 0), (1, 1, 1)]), 0)

    def test_too_large(self):
        self.told(TooLarge, section, Planes(2, [(1, -40, 0), (25, 1, 0)]), 0)
        self.assertEqual(section(Planes(2, [(1, -40, 0), (25, -1, 0)]), 0).planes(), [(999, -25)])
        self.assertEqual(section(Planes(2, [(1, -27, 0), (37, 1, 0)]), 0).planes(), [(1000, -37)])


class TestFields(unittest.TestCase, Refusals):
    PRIMES = (2, 3, 5, 7, 11, 13, 17, 19, 23, 29, 31)

    def rank(self, q, rows):
        """The rank over a field, by an elimination of the tests' own."""
        left = [[a % q for a in row] for row in rows]
        many = 0
        while left:
            row = left.pop()
            at = next((k for k, a in enumerate(row) if a), None)
            if at is None:
                continue
            many += 1
            back = pow(row[at], -1, q)
            left = [[(a - other[at] * back * b) % q for a, b in zip(other, row)] for other in left]
        return many

    def good(self, planes, q):
        told = Told(planes)
        for part in all_indexes(planes):
            rows = [planes.planes()[k] for k in part]
            many = self.rank(q, [row[:-1] for row in rows])
            if told.meets(part) != (many == self.rank(q, rows)):
                return False
            if told.meets(part) and told.rank(part) != many:
                return False
        return True

    def test_is_good(self):
        seen = set()
        for planes in LISTS:
            for q in self.PRIMES[:4] + (31,):
                good = self.good(planes, q)
                self.assertIs(is_good(planes, q), good)
                seen.add((good, q))
        self.assertEqual(len(seen), 10)

    def test_points(self):
        for planes in LISTS:
            for q in self.PRIMES:
                if q ** planes.n > 400:
                    continue
                many = sum(all((sum(a * x for a, x in zip(row, point)) - row[-1]) % q for row in planes.planes())
                           for point in product(range(q), repeat=planes.n))
                self.assertEqual(points_over(planes, q), many)
                if self.good(planes, q):
                    self.assertEqual(many, value_at(polynomial(planes), q))

    def test_a_prime_that_is_not_good(self):
        planes = read_planes("2 1,1,0 1,-1,0 3,0,1")
        self.assertIs(is_good(planes, 2), False)
        self.assertIs(is_good(planes, 3), False)
        self.assertIs(is_good(planes, 5), True)
        # Over 3 elements the last plane has no points, over 2 the first two are one.
        self.assertEqual(points_over(planes, 3), 4)
        self.assertEqual(points_over(planes, 2), 1)
        self.assertEqual(points_over(read_planes("2 5,5,1 1,0,0"), 5), 20)
        self.assertEqual(points_over(read_planes("2 5,3,1 1,0,0 0,1,2"), 3), 2)

    def test_the_meet_of_more_planes_than_letters(self):
        # Each two planes meet alike over 7 elements, but there all three meet in one point.
        planes = read_planes("2 1,0,0 0,1,0 1,1,7")
        self.assertIs(is_good(planes, 7), False)
        self.assertIs(is_good(planes, 11), True)

    def test_bounds(self):
        self.assertEqual(points_over(read_planes("2"), 31), 961)
        self.assertEqual(points_over(read_planes("4"), 7), 2401)
        self.assertEqual(points_over(read_planes("3"), 13), 2197)
        self.told(TooLarge, points_over, read_planes("3"), 17)
        self.told(TooLarge, points_over, read_planes("4"), 11)
        self.assertIs(is_good(read_planes("4"), 31), True)

    def test_no_primes(self):
        for q in (0, 1, -1, -2, -7, 4, 6, 9, 15, 21, 25, 27, 30, 32, 33, 35, 37, 41, 961, BIG):
            for planes in (EXAMPLE, read_planes("4")):
                self.told(BadNumber, is_good, planes, q)
                self.told(BadNumber, points_over, planes, q)

    def test_twelve_planes(self):
        rows = [(1, 0, 0, 0, k) for k in range(6)] + [(0, 1, 1, 0, k) for k in range(6)]
        planes = Planes(4, rows)
        for q in self.PRIMES:
            self.assertIs(is_good(planes, q), q >= 7)
        self.assertEqual(points_over(planes, 7), 49)


if __name__ == "__main__":
    unittest.main()

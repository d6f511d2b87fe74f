"""[20], [21], [22] and [27]: planes, lists of planes, rows of sides, meets."""

import unittest
from fractions import Fraction
from itertools import combinations, product
from math import gcd
from random import Random

from planeworth.errors import BadNumber, NoAnswer, NotPlanes, NotPoint, NotRow
from planeworth.planes import (Planes, check_letters, check_point, check_row, is_plane, is_row, meet, no_meet,
                               opposite, parting, row_of, side)
from tests.helpers import (BIG, EXAMPLE, NO_NUMBERS, SMALL_LISTS, Refusals, dot, fractions, pairs, pivots_of,
                           random_planes, reduced, row_at)

WRONG_LETTERS = (0, 5, -1, 6, 100)
TWELVE = [(1, k) for k in range(12)]


class TestPlane(unittest.TestCase, Refusals):

    def test_entries(self):
        for plane in ((1000, 999), (-1000, 999), (1, 1000), (1, -1000), (999, -1000), (1, 0), (-1, 0)):
            self.assertIs(is_plane(1, plane), True, plane)
        for plane in ((1001, 1), (-1001, 1), (1, 1001), (1, -1001), (1000, 1001), (BIG, 1), (1, BIG)):
            self.assertIs(is_plane(1, plane), False, plane)

    def test_common_divisors(self):
        self.assertIs(is_plane(2, (2, 4, 6)), False)
        self.assertIs(is_plane(2, (2, 4, 7)), True)
        self.assertIs(is_plane(2, (-3, 0, 0)), False)
        self.assertIs(is_plane(2, (0, -1, 0)), True)
        self.assertIs(is_plane(1, (2, 0)), False)

    def test_some_letter_must_be_there(self):
        for n in range(1, 5):
            self.assertIs(is_plane(n, (0,) * n + (1,)), False)
            self.assertIs(is_plane(n, (0,) * n + (-1,)), False)
            self.assertIs(is_plane(n, (0,) * (n + 1)), False)
            self.assertIs(is_plane(n, (0,) * (n - 1) + (1, 0)), True)

    def test_lengths(self):
        for n in range(1, 5):
            for size in range(8):
                self.assertIs(is_plane(n, (1,) * size), size == n + 1)

    def test_all_small_tuples(self):
        for plane in product(range(-4, 5), repeat=3):
            self.assertIs(is_plane(2, plane), any(plane[:2]) and gcd(*plane) == 1)

    def test_letters(self):
        for n in range(1, 5):
            self.assertIsNone(check_letters(n))
        for n in WRONG_LETTERS:
            self.told(BadNumber, check_letters, n)
            self.told(BadNumber, is_plane, n, (1, 0))
            self.told(BadNumber, is_plane, n, (2, 2))


class TestPoint(unittest.TestCase, Refusals):

    def test_points(self):
        for n in range(1, 5):
            self.assertIsNone(check_point(n, pairs(*["1/2"] * n)))
            self.told(NotPoint, check_point, n, pairs(*[1] * (n + 1)))
            self.told(NotPoint, check_point, n, pairs(*[1] * (n - 1)))
            for x in NO_NUMBERS:
                self.told(NotPoint, check_point, n, pairs(*[1] * (n - 1)) + (x,))
                self.told(NotPoint, check_point, n, (x,) + pairs(*[1] * (n - 1)))

    def test_letters_go_ahead(self):
        for n in WRONG_LETTERS:
            self.told(BadNumber, check_point, n, ())
            self.told(BadNumber, check_point, n, ((2, 4),))


class TestPlanes(unittest.TestCase, Refusals):

    def test_letters_go_ahead_of_planes(self):
        for n in WRONG_LETTERS:
            self.told(BadNumber, Planes, n, [])
            self.told(BadNumber, Planes, n, [(2, 2)])
            self.told(BadNumber, Planes, n, TWELVE + [(1, 12)])

    def test_planes_that_are_none(self):
        for plane in ((2, 0), (0, 1), (1001, 1), (1,), (1, 0, 0), ()):
            self.told(NotPlanes, Planes, 1, [plane])
            self.told(NotPlanes, Planes, 1, [(1, 0), plane])

    def test_a_plane_twice(self):
        self.told(NotPlanes, Planes, 1, [(1, 0), (1, 1), (1, 0)])
        self.told(NotPlanes, Planes, 1, [(1, 0), (1, 1), (-1, 0)])
        self.told(NotPlanes, Planes, 2, [(1, -2, 3), (-1, 2, -3)])
        self.assertEqual(len(Planes(2, [(1, -2, 3), (-1, 2, 3)])), 2)

    def test_how_many(self):
        self.assertEqual(len(Planes(1, TWELVE)), 12)
        self.told(NotPlanes, Planes, 1, TWELVE + [(1, 12)])
        self.told(NotPlanes, Planes, 1, TWELVE + [(1, 12), (1, 13)])

    def test_fields_and_methods(self):
        rows = [(1, 0, 0), (0, 1, 0), (1, 1, 1)]
        planes = Planes(2, rows)
        self.assertEqual(planes.n, 2)
        self.assertEqual(planes.planes(), rows)
        self.assertEqual(len(planes), 3)
        self.assertTrue(planes)
        self.assertFalse(Planes(3, []))
        self.assertEqual(len(Planes(3, [])), 0)
        self.assertEqual(Planes(4, []).n, 4)

    def test_equal(self):
        rows = [(1, 0, 0), (0, 1, 0), (1, 1, 1)]
        self.assertTrue(Planes(2, rows) == Planes(2, list(rows)))
        self.assertFalse(Planes(2, rows) != Planes(2, list(rows)))
        self.assertFalse(Planes(2, rows) == Planes(2, rows[::-1]))
        self.assertFalse(Planes(2, rows) == Planes(2, rows[:2]))
        self.assertFalse(Planes(2, rows) == Planes(2, [(-1, 0, 0)] + rows[1:]))
        self.assertFalse(Planes(2, []) == Planes(3, []))
        self.assertTrue(Planes(2, []) == Planes(2, []))
        self.assertFalse(Planes(2, []) == [])
        self.assertFalse(Planes(2, rows) == rows)

    def test_rank_and_central(self):
        for planes in SMALL_LISTS:
            rows = planes.planes()
            left, whole = [row[:-1] for row in rows], [list(row) for row in rows]
            self.assertEqual(planes.rank(), len(reduced(left)))
            self.assertIs(planes.is_central(), len(reduced(left)) == len(reduced(whole)))
        self.assertEqual(Planes(3, []).rank(), 0)
        self.assertIs(Planes(3, []).is_central(), True)
        self.assertIs(Planes(1, [(1, 0), (1, 1)]).is_central(), False)
        self.assertIs(Planes(2, [(1, 0, 1), (0, 1, 1), (1, 1, 2)]).is_central(), True)

    def test_without_turned_only(self):
        for planes in SMALL_LISTS:
            rows = planes.planes()
            for at in range(len(rows)):
                self.assertEqual(planes.without(at), Planes(planes.n, rows[:at] + rows[at + 1:]))
                other = tuple(-a for a in rows[at])
                self.assertEqual(planes.turned(at), Planes(planes.n, rows[:at] + [other] + rows[at + 1:]))
                self.assertEqual(planes.turned(at).turned(at), planes)
            for size in range(len(rows) + 1):
                for indexes in combinations(range(len(rows)), size):
                    self.assertEqual(planes.only(indexes), Planes(planes.n, [rows[k] for k in indexes]))
            self.assertEqual(planes.planes(), rows)

    def test_indexes_that_are_none(self):
        for planes in SMALL_LISTS:
            for at in (-1, len(planes), len(planes) + 5, -len(planes) - 1, BIG):
                self.told(BadNumber, planes.without, at)
                self.told(BadNumber, planes.turned, at)
                self.told(BadNumber, planes.only, (at,))
        for indexes in ((1, 0), (0, 0), (0, 2, 1), (0, 1, 1), (0, 1, 3), (-1, 0), (2, 2)):
            self.told(BadNumber, EXAMPLE.only, indexes)

    def test_nothing_is_modified_or_shared(self):
        rows = [(1, 0, 0), (0, 1, 0), (1, 1, 1)]
        kept = list(rows)
        planes = Planes(2, rows)
        rows.append((5, 1, 1))
        self.assertEqual(planes.planes(), kept)
        planes.planes().append((7, 1, 1))
        told = planes.planes()
        told[0] = (9, 1, 1)
        self.assertEqual(planes.planes(), kept)
        less = planes.without(0)
        less.planes().clear()
        planes.turned(1)
        planes.only((0, 1))
        self.assertEqual(planes.planes(), kept)
        self.assertEqual(len(planes), 3)
        self.assertEqual(less.planes(), kept[1:])
        given = list(kept)
        Planes(2, given)
        self.assertEqual(given, kept)


class TestRows(unittest.TestCase, Refusals):

    def test_rows_of_points(self):
        draw = Random(1)
        for planes in SMALL_LISTS:
            for _ in range(30):
                point = [Fraction(draw.randint(-4, 4), draw.randint(1, 2)) for _ in range(planes.n)]
                want = row_at(planes, point)
                self.assertEqual(row_of(planes, pairs(*point)), want)
                self.assertEqual("".join(side(planes, k, pairs(*point)) for k in range(len(planes))), want)

    def test_on_before_and_behind(self):
        planes = Planes(2, [(2, -3, 5)])
        self.assertEqual(side(planes, 0, pairs(4, 1)), "0")
        self.assertEqual(side(planes, 0, pairs(4, "9999999/10000000")), "+")
        self.assertEqual(side(planes, 0, pairs(4, "10000001/10000000")), "-")
        self.assertEqual(side(planes, 0, pairs(Fraction(3 * BIG + 5, 2), BIG)), "0")
        self.assertEqual(side(planes, 0, pairs(Fraction(3 * BIG + 6, 2), BIG)), "+")

    def test_example(self):
        self.assertEqual(row_of(EXAMPLE, pairs("1/2", "1/3")), "++-")
        self.assertEqual(row_of(EXAMPLE, pairs(2, -1)), "+-0")
        self.assertEqual(row_of(Planes(3, []), pairs(0, 0, 0)), "")

    def test_errors_of_side_and_row_of(self):
        for at in (-1, 3, 4):
            self.told(BadNumber, side, EXAMPLE, at, pairs(0, 0))
            self.told(BadNumber, side, EXAMPLE, at, pairs(0))
        for point in [(), pairs(0), pairs(0, 0, 0)] + [((1, 1), x) for x in NO_NUMBERS] + [(x, (1, 1)) for x in NO_NUMBERS]:
            self.told(NotPoint, side, EXAMPLE, 0, point)
            self.told(NotPoint, row_of, EXAMPLE, point)
        self.told(BadNumber, side, Planes(1, []), 0, pairs(0))

    def test_is_row(self):
        for row in ("++-", "000", "-0+"):
            self.assertIs(is_row(EXAMPLE, row), True)
            self.assertIsNone(check_row(EXAMPLE, row))
        for row in ("", "+", "++", "++++", "++x", "++1", "+ -", "++\u2212", "+-O", "+-0\n", "a+-"):
            with self.subTest(row):
                self.assertIs(is_row(EXAMPLE, row), False)
                self.told(NotRow, check_row, EXAMPLE, row)
        self.assertIs(is_row(Planes(2, []), ""), True)
        self.assertIs(is_row(Planes(2, []), "+"), False)

    def test_opposite(self):
        self.assertEqual(opposite(EXAMPLE, "+-0"), "-+0")
        self.assertEqual(opposite(EXAMPLE, "000"), "000")
        self.assertEqual(opposite(Planes(1, []), ""), "")
        for row in ("", "++", "+-x", "+-00"):
            self.told(NotRow, opposite, EXAMPLE, row)

    def test_parting(self):
        signs = "+-0"
        for one in product(signs, repeat=3):
            for other in product(signs, repeat=3):
                want = tuple(k for k in range(3) if {one[k], other[k]} == {"+", "-"})
                self.assertEqual(parting(EXAMPLE, "".join(one), "".join(other)), want)
        self.assertEqual(parting(Planes(1, []), "", ""), ())
        for row in ("", "++", "+-x", "+-00"):
            self.told(NotRow, parting, EXAMPLE, row, "+++")
            self.told(NotRow, parting, EXAMPLE, "+++", row)
            self.told(NotRow, parting, EXAMPLE, row, row)


class TestMeet(unittest.TestCase, Refusals):

    def check(self, planes, indexes):
        """The answer for some planes, by [5], [4] and [27]; returns whether they meet."""
        rows = [planes.planes()[k] for k in indexes]
        left = [row[:-1] for row in rows]
        places = pivots_of(reduced(left))
        free = [k for k in range(planes.n) if k not in places]
        if len(reduced(left)) == len(reduced(rows)):
            place, directions = meet(planes, indexes)
            told = fractions(place)
            self.assertEqual(len(told), planes.n)
            self.assertTrue(all(dot(told, row[:-1]) == row[-1] for row in rows))
            self.assertTrue(all(told[k] == 0 for k in free))
            self.assertIsInstance(directions, list)
            self.assertEqual([[fractions(row)[k] for k in free] for row in directions],
                             [[int(k == j) for k in free] for j in free])
            self.assertTrue(all(dot(fractions(row), line) == 0 for row in directions for line in left))
            self.told(NoAnswer, no_meet, planes, indexes)
            return True
        self.told(NoAnswer, meet, planes, indexes)
        told = no_meet(planes, indexes)
        self.assertIsInstance(told, tuple)
        ys = fractions(told)
        self.assertEqual(dot(ys, [row[-1] for row in rows]), 1)
        lines = [[row[k] for row in rows] for k in range(planes.n + 1)]
        self.assertTrue(all(dot(ys, line) == 0 for line in lines[:-1]))
        self.assertTrue(all(ys[k] == 0 for k in range(len(rows)) if k not in pivots_of(reduced(lines))))
        return False

    def test_exactly_one_of_both(self):
        kinds = []
        for planes in SMALL_LISTS + [random_planes(k, 3, 5, 3) for k in range(3)]:
            for size in range(len(planes) + 1):
                for indexes in combinations(range(len(planes)), size):
                    kinds.append(self.check(planes, indexes))
        self.assertGreater(kinds.count(True), 50)
        self.assertGreater(kinds.count(False), 50)

    def test_no_planes_meet_everywhere(self):
        self.assertEqual(meet(EXAMPLE, ()), (pairs(0, 0), [pairs(1, 0), pairs(0, 1)]))
        self.assertEqual(meet(Planes(1, []), ()), (pairs(0), [pairs(1)]))
        self.told(NoAnswer, no_meet, EXAMPLE, ())

    def test_told_meets(self):
        self.assertEqual(meet(EXAMPLE, (2,)), (pairs(1, 0), [pairs(-1, 1)]))
        self.assertEqual(meet(EXAMPLE, (0, 2)), (pairs(0, 1), []))
        self.assertEqual(no_meet(EXAMPLE, (0, 1, 2)), pairs(-1, -1, 1))
        self.assertEqual(no_meet(Planes(1, [(1, 3), (1, 5), (1, 9)]), (0, 1, 2)), pairs("-1/2", "1/2", 0))

    def test_bad_number_goes_ahead(self):
        for indexes in ((3,), (-1,), (0, 1, 2, 3), (1, 0), (0, 0), (2, 1, 0), (0, 2, 1), (0, 1, 2, 2)):
            self.told(BadNumber, meet, EXAMPLE, indexes)
            self.told(BadNumber, no_meet, EXAMPLE, indexes)


if __name__ == "__main__":
    unittest.main()

"""[190] to [198]: the table of distances."""

import unittest
from fractions import Fraction
from itertools import combinations
from random import Random

from planeworth.distances import (comes_apart, flat_exponent, flat_exponents, flat_inner, is_lost_numbers,
                                  lost_numbers, toll_determinant, toll_rank, toll_table)
from planeworth.errors import BadNumber, NoAnswer, NotFlat, NotNumber, TooLarge
from planeworth.rooms import faces, rooms
from planeworth.texts import read_planes
from tests.helpers import (BIG, EXAMPLE, NO_NUMBERS, SMALL_LISTS, Refusals, Told, dot, fractions, origin_planes, pair,
                           pairs, random_planes, reduced)

THROUGH = read_planes("2 1,0,0 0,1,0 1,1,0")
BRAID = read_planes("3 1,0,0,0 0,1,0,0 0,0,1,0 1,-1,0,0 1,0,-1,0 0,1,-1,0")
LINES = read_planes("2 1,0,0 0,1,0 1,-1,0 1,2,1 2,1,5 3,1,7 1,5,9 1,7,23 1,9,40 1,11,71")
LISTS = SMALL_LISTS + [THROUGH, BRAID, random_planes(4, 2, 5, 2), origin_planes(4, 3, 5, 1), origin_planes(5, 4, 5, 1)]
TOLD = [Told(planes) for planes in LISTS]


def random_tolls(seed, many, kinds):
    draw = Random(seed)
    return pairs(*[draw.choice(kinds) for _ in range(many)])


KINDS = ("1/2", "2/3", -2, 3, "-1/5"), (0, 1, "1/2"), (1, -1, 2, 0), ("99/100", "-100/97"), (2, "1/2", 1)


def table(planes, tolls):
    """The products of the tolls that part two rooms, as fractions."""
    told, found = rooms(planes), []
    for one in told:
        row = []
        for other in told:
            worth = Fraction(1)
            for x, a, b in zip(fractions(tolls), one, other):
                if a != b:
                    worth *= x
            row.append(worth)
        found.append(row)
    return found


def determinant(rows):
    """The determinant, by an elimination of the tests' own."""
    left, found = [list(row) for row in rows], Fraction(1)
    while left:
        at = next((k for k, row in enumerate(left) if row[0]), None)
        if at is None:
            return Fraction(0)
        by = left.pop(at)
        found *= by[0] * (-1) ** at
        left = [[x - row[0] / by[0] * y for x, y in zip(row[1:], by[1:])] for row in left]
    return found


def product_over_flats(planes, tolls):
    """The product of [194]."""
    found = Fraction(1)
    for flat, exponent in flat_exponents(planes):
        worth = Fraction(1)
        for at in flat:
            worth *= Fraction(*tolls[at]) ** 2
        found *= (1 - worth) ** exponent
    return found


def exponents(told):
    """The exponents of all flats, by weights added up and faces counted."""
    planes, weights = told.planes, told.weights()
    every = faces(planes)
    found = {}
    for flat in told.web():
        inner = abs(sum(much * (told.rank(flat) - told.rank(other)) for other, much in weights.items()
                        if set(other) <= set(flat)))
        own = [face for face in every if tuple(k for k, letter in enumerate(face) if letter == "0") == flat]
        found[flat] = (inner, inner * len(own))
    return found


class TestTables(unittest.TestCase, Refusals):

    def test_products_of_tolls(self):
        for seed, planes in enumerate(LISTS):
            for kinds in KINDS:
                tolls = random_tolls(seed, len(planes), kinds)
                due = [tuple(pair(x) for x in row) for row in table(planes, tolls)]
                self.assertEqual(toll_table(planes, tolls), due)

    def test_no_planes(self):
        for n in (1, 4):
            planes = read_planes(str(n))
            self.assertEqual(toll_table(planes, ()), [((1, 1),)])
            self.assertEqual(toll_determinant(planes, ()), (1, 1))
            self.assertEqual(toll_rank(planes, ()), 1)
            self.told(NoAnswer, lost_numbers, planes, ())
            self.assertEqual(flat_exponents(planes), [])

    def test_tables_may_be_changed(self):
        found = toll_table(THROUGH, pairs(2, 3, 5))
        found.clear()
        self.assertEqual(len(toll_table(THROUGH, pairs(2, 3, 5))), 6)

    def test_errors_in_their_order(self):
        many = LINES.planes() + [(1, 13, 97)]
        more = type(LINES)(2, many)
        self.assertEqual((len(rooms(LINES)), len(rooms(more)) > 60), (55, True))
        calls = [(toll_table, ()), (toll_determinant, ()), (toll_rank, ()), (lost_numbers, ()), (is_lost_numbers, ((),))]
        for call, rest in calls:
            for tolls in ((), pairs(1), pairs(1, 2), pairs(1, 2, 3, 4), ((2, 4), (101, 1))):
                self.told(BadNumber, call, EXAMPLE, tolls, *rest)
            for x in NO_NUMBERS:
                self.told(NotNumber, call, EXAMPLE, ((1, 1), (101, 1), x), *rest)
                self.told(NotNumber, call, more, ((101, 1),) * 10 + (x,), *rest)
            for x in ((101, 1), (-101, 1), (1, 101), (BIG, 1)):
                self.told(BadNumber, call, EXAMPLE, ((1, 1), x, (1, 2)), *rest)
                self.told(BadNumber, call, more, ((1, 1),) * 10 + (x,), *rest)
            self.told(TooLarge, call, more, ((1, 1),) * 11, *rest)
        # Four lines and two lines side by side leave 60 rooms of eleven lines; a room more is too many.
        steep = [(1, -k, k * k * k) for k in range(2, 7)]
        fits = read_planes("2 1,0,0 1,0,1 1,0,2 1,0,3 0,1,100 0,1,101")
        fits = type(fits)(2, fits.planes() + steep)
        more = type(fits)(2, fits.planes()[:5] + [(1, 1, 1)] + steep)
        self.assertEqual((len(rooms(fits)), len(rooms(more))), (60, 61))
        self.assertEqual(len(toll_table(fits, ((1, 2),) * 11)), 60)
        self.told(TooLarge, toll_table, more, ((1, 2),) * 11)
        self.assertEqual(toll_table(read_planes("1 1,0"), ((-100, 1),)), [((1, 1), (-100, 1)), ((-100, 1), (1, 1))])
        self.assertEqual(toll_table(read_planes("1 1,0"), ((1, 100),)), [((1, 1), (1, 100)), ((1, 100), (1, 1))])


class TestFlats(unittest.TestCase, Refusals):

    def test_inner_numbers_and_exponents(self):
        for told in TOLD:
            due = exponents(told)
            for flat, (inner, exponent) in due.items():
                self.assertEqual(flat_inner(told.planes, flat), inner)
                self.assertEqual(flat_exponent(told.planes, flat), exponent)
            self.assertEqual(flat_exponents(told.planes), [(flat, due[flat][1]) for flat in told.web() if due[flat][1]])

    def test_comes_apart(self):
        seen = set()
        for told in TOLD:
            for flat in told.web():
                ways = [part for size in range(1, len(flat)) for part in combinations(flat, size)]
                due = any(told.rank(part) + told.rank(tuple(k for k in flat if k not in part)) == told.rank(flat)
                          for part in ways)
                self.assertIs(comes_apart(told.planes, flat), due)
                self.assertIs(flat_inner(told.planes, flat) == 0, due or flat == ())
                seen.add((due, told.rank(flat)))
        self.assertTrue({(True, 2), (False, 2), (True, 3), (False, 3)} <= seen)

    def test_no_planes_and_one(self):
        for told in TOLD:
            self.assertEqual((flat_inner(told.planes, ()), flat_exponent(told.planes, ())), (0, 0))
            self.assertIs(comes_apart(told.planes, ()), False)
            for flat in told.web():
                if told.rank(flat) == 1:
                    self.assertEqual(flat_inner(told.planes, flat), 1)

    def test_no_flats(self):
        for call in (flat_inner, flat_exponent, comes_apart):
            for flat in ((0, 1), (3,), (-1,), (1, 0), (0, 0), (0, 1, 2, 3)):
                self.told(NotFlat, call, THROUGH, flat)
            self.told(NotFlat, call, EXAMPLE, (0, 1, 2))

    def test_central_lists(self):
        for told in TOLD:
            planes = told.planes
            if planes.is_central():
                for at in range(len(planes)):
                    total = sum(exponent for flat, exponent in flat_exponents(planes) if at in flat)
                    self.assertEqual(2 * total, len(rooms(planes)))

    def test_a_large_list(self):
        found = flat_exponents(random_planes(60, 4, 12, 1000))
        self.assertEqual(found, [((k,), 232) for k in range(12)])

    def test_example(self):
        self.assertEqual([flat_inner(EXAMPLE, (k,)) for k in range(3)], [1, 1, 1])
        self.assertEqual([flat_exponent(EXAMPLE, (k,)) for k in range(3)], [3, 3, 3])
        for flat in ((0, 1), (0, 2), (1, 2)):
            self.assertIs(comes_apart(EXAMPLE, flat), True)
        self.assertEqual(toll_determinant(EXAMPLE, pairs(2, 3, "1/2")), pair(Fraction(-3 * -8 * 3, 4) ** 3))
        self.assertEqual(len(rooms(THROUGH)), 6)
        self.assertEqual(flat_exponents(THROUGH), [((0,), 2), ((1,), 2), ((2,), 2), ((0, 1, 2), 1)])
        self.assertEqual(flat_inner(THROUGH, (0, 1, 2)), 1)


class TestDeterminants(unittest.TestCase, Refusals):

    def test_determinants_and_ranks(self):
        zero = 0
        for seed, planes in enumerate(LISTS):
            for kinds in KINDS:
                tolls = random_tolls(seed, len(planes), kinds)
                rows = table(planes, tolls)
                found = determinant(rows)
                self.assertEqual(toll_determinant(planes, tolls), pair(found))
                self.assertEqual(toll_rank(planes, tolls), len(reduced(rows)))
                self.assertEqual(found, product_over_flats(planes, tolls))
                self.lost(planes, tolls, rows, found)
                zero += found == 0
        self.assertGreater(zero, 20)

    def lost(self, planes, tolls, rows, found):
        if found:
            self.told(NoAnswer, lost_numbers, planes, tolls)
            self.assertIs(is_lost_numbers(planes, tolls, pairs(*[1] * len(rows))), False)
            return
        numbers = lost_numbers(planes, tolls)
        told = fractions(numbers)
        self.assertIsInstance(numbers, tuple)
        self.assertEqual(len(told), len(rows))
        self.assertTrue(any(told))
        self.assertFalse(any(dot(told, row) for row in rows))
        self.assertIs(is_lost_numbers(planes, tolls, numbers), True)
        for factor in (-1, Fraction(BIG, 7)):
            self.assertIs(is_lost_numbers(planes, tolls, pairs(*[factor * x for x in told])), True)
        self.assertIs(is_lost_numbers(planes, tolls, pairs(*[0] * len(told))), False)
        for at in range(len(told)):
            changed = [x + (k == at) for k, x in enumerate(told)]
            due = any(changed) and not any(dot(changed, row) for row in rows)
            self.assertIs(is_lost_numbers(planes, tolls, pairs(*changed)), due)

    def test_a_flat_with_the_product_1(self):
        for tolls in (pairs(2, "1/2", 1), pairs(2, "-1/6", 3), pairs("2/3", "9/2", "1/3")):
            self.assertEqual(toll_determinant(THROUGH, tolls), (0, 1))
            self.assertLess(toll_rank(THROUGH, tolls), 6)
        # The same tolls have no product 1 at a flat that counts where no two lines meet in the third.
        self.assertNotEqual(toll_determinant(EXAMPLE, pairs(2, "-1/6", 3)), (0, 1))
        self.assertNotEqual(toll_determinant(EXAMPLE, pairs(2, "1/2", 3)), (0, 1))
        for x in (1, -1):
            self.assertEqual(toll_determinant(EXAMPLE, pairs(2, x, 3)), (0, 1))

    def test_numbers_that_are_refused(self):
        tolls = pairs(1, 2, 3)
        for numbers in ((), pairs(0), pairs(*[1] * 6), pairs(*[1] * 8), ((2, 4),) * 6):
            self.told(BadNumber, is_lost_numbers, EXAMPLE, tolls, numbers)
        for x in NO_NUMBERS:
            self.told(NotNumber, is_lost_numbers, EXAMPLE, tolls, pairs(1, 0, 0, 0, 0, 0) + (x,))

    def test_a_toll_of_1(self):
        for planes in (EXAMPLE, THROUGH, BRAID):
            for at in range(len(planes)):
                tolls = random_tolls(at, len(planes), ("1/2", 3, "-2/7"))
                one = tolls[:at] + ((1, 1),) + tolls[at + 1:]
                fewer = tolls[:at] + tolls[at + 1:]
                self.assertEqual(toll_rank(planes, one), toll_rank(planes.without(at), fewer))
                same = {row for row in toll_table(planes, one)}
                self.assertEqual(len(same), len(rooms(planes.without(at))))

    def test_tolls_of_0(self):
        found = toll_table(BRAID, pairs(*[0] * 6))
        self.assertEqual(found, [tuple((int(i == j), 1) for j in range(24)) for i in range(24)])
        self.assertEqual((toll_determinant(BRAID, pairs(*[0] * 6)), toll_rank(BRAID, pairs(*[0] * 6))), ((1, 1), 24))

    def test_more_than_50_rooms(self):
        tolls = pairs("99/98", "98/97", "97/99", "97/96", "96/97", "89/91", "93/100", "83/100", "79/97", "61/83")
        self.assertEqual(toll_determinant(LINES, tolls), (0, 1))
        self.assertEqual(toll_rank(LINES, tolls), 54)
        self.assertIs(is_lost_numbers(LINES, tolls, lost_numbers(LINES, tolls)), True)
        other = pairs("1/2", *[3] * 9)
        self.assertEqual(toll_determinant(LINES, other), pair(determinant(table(LINES, other))))
        self.assertEqual(toll_rank(LINES, other), 55)


if __name__ == "__main__":
    unittest.main()

"""[130] to [141]: derivations, lawful ones, free planes, modular flats."""

import unittest
from fractions import Fraction
from itertools import product
from math import gcd
from random import Random

from planeworth.counting import polynomial, shrunk
from planeworth.derivations import (applied, bracket, check_derivation, degree_table, degrees, freedom, is_derivation,
                                    is_modular, lawful, lawful_basis, split_chain)
from planeworth.errors import BadNumber, NoAnswer, NotFlat, NotPlanes, NotPoly, TooLarge
from planeworth.planes import Planes
from planeworth.polys import plane_form, poly_determinant, poly_product, poly_sum, poly_times, slope
from planeworth.texts import read_planes
from tests.helpers import BIG, EXAMPLE, ORIGIN_LISTS, Refusals, Told, origin_planes, reduced

X, Y = (((1, 0), 1),), (((0, 1), 1),)
XX, YY = (((2, 0), 1),), (((0, 2), 1),)
BRAID = read_planes("3 1,0,0,0 0,1,0,0 0,0,1,0 1,-1,0,0 1,0,-1,0 0,1,-1,0")
GENERIC = read_planes("3 1,0,0,0 0,1,0,0 0,0,1,0 1,1,1,0")
# Three chosen derivations of the degrees 1, 3 and 3 in all, for six planes.
ENDS_BY_DEGREES = read_planes("3 0,0,1,0 0,1,1,0 1,1,0,0 1,0,0,0 1,-1,-1,0 0,1,-1,0")
LATER = read_planes("3 1,0,-1,0 0,0,1,0 0,1,0,0 1,1,-1,0 1,1,0,0 1,1,1,0 1,0,0,0")
LISTS = ORIGIN_LISTS + [ENDS_BY_DEGREES, origin_planes(5, 3, 5, 2), origin_planes(6, 2, 5, 9), origin_planes(7, 4, 5, 1)]
KNOWN = {}
SPOILT = [
    (), (X,), (X, Y, X), (X, (((0, 1), 0),)), (X, (((1,), 1),)), (X, (((1, 0), 1), ((0, 1), 1))), (X, XX), (X, (((0, 0), 1),)),
    ((((0, 0), 1), ((0, 1), 1)), ()), ((), (((0, 1), 1), ((2, 0), 1))), ((((7, 6), 1),), ()), ((((-1, 2), 1),), Y)]


def all_powers(n, degree):
    return [powers for powers in product(range(degree + 1), repeat=n) if sum(powers) == degree]


def all_places(n, degree):
    return [(k, powers) for k in range(n) for powers in all_powers(n, degree)]


def as_row(n, degree, one):
    """A derivation as its integers at all places."""
    return [dict(one[k]).get(powers, 0) for k, powers in all_places(n, degree)]


def conditions(planes, degree):
    """Rows that are 0 with just the lawful derivations: what is made of each form is 0 at points of the plane.

    There are enough points to tell whether a polynomial of the degree is 0 on the plane.
    """
    n = planes.n
    key = (n, tuple(planes.planes()), degree)
    if key in KNOWN:
        return KNOWN[key]
    rows = []
    for plane in planes.planes():
        at = next(k for k, a in enumerate(plane) if a)
        for rest in product(range(degree + 1), repeat=n - 1):
            point = list(rest[:at]) + [0] + list(rest[at:])
            point[at] = -Fraction(sum(a * x for a, x in zip(plane, point)), plane[at])
            row = []
            for k, powers in all_places(n, degree):
                worth = Fraction(plane[k])
                for x, power in zip(point, powers):
                    worth *= x ** power
                row.append(worth)
            if any(row):
                rows.append(row)
    KNOWN[key] = reduced(rows)
    return KNOWN[key]


def random_derivation(seed, n, degree):
    draw = Random(seed)
    parts = []
    for _ in range(n):
        found = {powers: draw.randint(-3, 3) for powers in draw.sample(all_powers(n, degree), min(3, len(all_powers(n, degree))))}
        parts.append(tuple(sorted((powers, a) for powers, a in found.items() if a)))
    return tuple(parts)


class TestDerivations(unittest.TestCase, Refusals):

    def test_is_derivation(self):
        for one in ((X, Y), ((), ()), (XX, ()), ((), YY), ((((0, 0), 5),), ()), ((((0, 12), -1),), (((12, 0), 1),))):
            self.assertIs(is_derivation(2, one), True)
            self.assertIsNone(check_derivation(2, one))
        for one in SPOILT:
            self.assertIs(is_derivation(2, one), False)
            self.told(NotPoly, check_derivation, 2, one)
            self.told(NotPoly, applied, 2, one, (((1, 1), 0),))
            self.told(NotPoly, applied, 2, one, XX)
            self.told(NotPoly, bracket, 2, one, (X, Y))
            self.told(NotPoly, bracket, 2, (X, Y), one)
            self.told(NotPoly, lawful, read_planes("2"), one)
        for n in (0, 5, -1, BIG):
            self.told(BadNumber, is_derivation, n, SPOILT[1])
            self.told(BadNumber, check_derivation, n, SPOILT[1])
            self.told(BadNumber, applied, n, SPOILT[1], ())
            self.told(BadNumber, bracket, n, SPOILT[1], SPOILT[2])
        self.assertIs(is_derivation(1, ((),)), True)
        self.assertIs(is_derivation(4, ((), (((1, 0, 0, 0), 1),), (((0, 0, 0, 1), 2),), ())), True)

    def test_applied(self):
        for seed in range(24):
            n = seed % 4 + 1
            one = random_derivation(seed, n, seed % 3)
            poly = random_derivation(seed + 40, n, seed % 4 + 1)[0]
            due = ()
            for k in range(n):
                due = poly_sum(n, due, poly_product(n, one[k], slope(n, poly, k)))
            self.assertEqual(applied(n, one, poly), due)
        self.assertEqual(applied(2, (X, Y), (((2, 3), 7),)), (((2, 3), 35),))
        self.assertEqual(applied(2, (Y, ()), (((0, 1), 4), ((2, 0), 1))), (((1, 1), 2),))
        self.told(NotPoly, applied, 2, (X, Y), (((1, 0), 0),))

    def test_brackets(self):
        for seed in range(24):
            n = seed % 4 + 1
            one, two = random_derivation(seed, n, seed % 3 + 1), random_derivation(seed + 40, n, seed % 2 + 1)
            due = tuple(poly_sum(n, applied(n, one, other), poly_times(n, applied(n, two, part), -1))
                        for part, other in zip(one, two))
            self.assertEqual(bracket(n, one, two), due)
            self.assertTrue(is_derivation(n, due))
            self.assertEqual(bracket(n, two, one), tuple(poly_times(n, part, -1) for part in due))
        # Bracketed with (x1, x2), a derivation of the degree d is multiplied by d - 1.
        self.assertEqual(bracket(2, (X, Y), (YY, XX)), (YY, XX))
        self.assertEqual(bracket(2, (Y, ()), ((), X)), ((((1, 0), -1),), Y))

    def test_degrees_above_12(self):
        def power(k):
            return (((0, k), 1),)
        one = ((), power(6))
        self.assertEqual(applied(2, one, power(7)), (((0, 12), 7),))
        self.told(TooLarge, applied, 2, one, power(8))
        # With the letter 0 alone nothing is multiplied, as the polynomial there is 0.
        self.assertEqual(applied(2, one, (((8, 0), 1),)), ())
        self.assertEqual(applied(2, ((), ()), power(12)), ())
        self.assertEqual(applied(2, (power(12), ()), power(12)), ())
        self.assertEqual(bracket(2, one, ((), power(7))), ((), (((0, 12), 1),)))
        self.told(TooLarge, bracket, 2, one, ((), power(8)))
        self.told(TooLarge, bracket, 2, ((), power(8)), one)
        self.assertEqual(bracket(2, ((), power(12)), ((), ())), ((), ()))
        self.assertEqual(bracket(2, (power(12), ()), (power(12), ())), ((), ()))


class TestLawful(unittest.TestCase, Refusals):

    def test_the_told_basis(self):
        for planes in LISTS:
            n = planes.n
            for degree in range(5 if n < 3 else 4 if n == 3 else 3):
                places = all_places(n, degree)
                laws = conditions(planes, degree)
                basis = lawful_basis(planes, degree)
                rows = [as_row(n, degree, one) for one in basis]
                self.assertEqual(len(rows), len(places) - len(laws))
                firsts = [next(k for k, a in enumerate(row) if a) for row in rows]
                self.assertEqual(firsts, sorted(set(firsts)))
                for one, row, first in zip(basis, rows, firsts):
                    self.assertTrue(is_derivation(n, one))
                    self.assertIs(lawful(planes, one), True)
                    self.assertFalse(any(sum(a * x for a, x in zip(row, law)) for law in laws))
                    self.assertGreater(row[first], 0)
                    self.assertEqual(gcd(*row), 1)
                    self.assertEqual([row[k] for k in firsts if k != first], [0] * (len(rows) - 1))

    def test_all_degrees(self):
        for degree in range(12):
            self.assertEqual(lawful_basis(read_planes("1"), degree), [((((degree,), 1),),)])
            some = lawful_basis(read_planes("2 1,0,0"), degree)
            self.assertEqual(len(some), 2 * degree + 1)
        self.assertEqual(lawful_basis(read_planes("1 1,0"), 0), [])
        self.assertEqual(lawful_basis(read_planes("2"), 0), [((((0, 0), 1),), ()), ((), (((0, 0), 1),))])
        self.assertEqual(lawful_basis(GENERIC, 1), [((((1, 0, 0), 1),), (((0, 1, 0), 1),), (((0, 0, 1), 1),))])

    def test_errors_in_their_order(self):
        for degree in (-1, 12, BIG):
            self.told(BadNumber, lawful_basis, read_planes("4"), degree)
            self.told(NotPlanes, lawful_basis, EXAMPLE, degree)
        self.assertEqual(len(lawful_basis(read_planes("3"), 8)), 135)
        self.told(TooLarge, lawful_basis, read_planes("3"), 9)
        self.assertEqual(len(lawful_basis(read_planes("4"), 4)), 140)
        self.told(TooLarge, lawful_basis, read_planes("4"), 5)
        self.told(NotPlanes, lawful, EXAMPLE, ())
        self.told(NotPlanes, lawful, EXAMPLE, (X, Y))

    def test_many_planes(self):
        basis = lawful_basis(origin_planes(9, 4, 12, 1000), 4)
        self.assertEqual(len(basis), 20)
        planes = origin_planes(9, 2, 12, 9)
        self.assertEqual(len(lawful_basis(planes, 11)), 12)
        self.assertTrue(all([lawful(planes, one) for one in lawful_basis(planes, 11)]))

    def test_what_is_lawful(self):
        for planes in LISTS:
            n = planes.n
            letters = tuple(plane_form(n, tuple(int(j == k) for j in range(n)) + (0,)) for k in range(n))
            self.assertIs(lawful(planes, letters), True)
            self.assertIs(lawful(planes, ((),) * n), True)
            basis = lawful_basis(planes, 2)[:4]
            for one in basis:
                for two in basis:
                    both = tuple(poly_sum(n, a, poly_times(n, b, -3)) for a, b in zip(one, two))
                    self.assertIs(lawful(planes, both), True)
                    self.assertIs(lawful(planes, bracket(n, one, two)), True)
                many = tuple(poly_product(n, part, letters[-1]) for part in one)
                self.assertIs(lawful(planes, many), True)

    def test_one_term_changed(self):
        seen = set()
        for planes in LISTS:
            n = planes.n
            laws = conditions(planes, 2)
            for one in lawful_basis(planes, 2)[:3]:
                row = as_row(n, 2, one)
                for at, (k, powers) in enumerate(all_places(n, 2)):
                    changed = list(one)
                    changed[k] = poly_sum(n, one[k], ((powers, 1),))
                    new = row[:at] + [row[at] + 1] + row[at + 1:]
                    due = not any(sum(a * x for a, x in zip(new, law)) for law in laws)
                    self.assertIs(lawful(planes, tuple(changed)), due)
                    seen.add(due)
        self.assertEqual(seen, {True, False})

    def test_a_multiple_by_fractions_is_one_by_integers(self):
        self.assertIs(lawful(read_planes("2 2,1,0"), (X, Y)), True)
        self.assertIs(lawful(read_planes("2 2,1,0"), ((((0, 1), 1),), (((0, 1), -1),))), False)


class TestFree(unittest.TestCase, Refusals):

    def due(self, planes):
        """The table and the chosen derivations, step by step as [135] and [136] tell."""
        n, m = planes.n, len(planes)
        table, chosen, before = [], [], []
        while True:
            degree = len(table)
            basis = lawful_basis(planes, degree)
            made = []
            for one in before:
                for k in range(n):
                    letter = plane_form(n, tuple(int(j == k) for j in range(n)) + (0,))
                    made.append(as_row(n, degree, tuple(poly_product(n, part, letter) for part in one)))
            made = reduced(made)
            fresh = []
            for one in basis:
                longer = reduced(made + [as_row(n, degree, one)])
                if len(longer) > len(made):
                    fresh.append(one)
                    made = longer
            table.append((len(basis), len(fresh)))
            chosen += fresh
            weight = sum(k * new for k, (_, new) in enumerate(table))
            if len(chosen) > n or len(chosen) == n and weight > m:
                return table, ("bound", tuple(table))
            if len(chosen) == n and weight == m and poly_determinant(n, chosen):
                return table, ("free", tuple(chosen))
            before = basis

    def product_of_forms(self, planes):
        total = (((0,) * planes.n, 1),)
        for plane in planes.planes():
            total = poly_product(planes.n, total, plane_form(planes.n, plane))
        return total

    def test_tables(self):
        ends = set()
        for planes in LISTS:
            table, answer = self.due(planes)
            self.assertEqual(degree_table(planes), table)
            self.assertEqual(freedom(planes), answer)
            n, m = planes.n, len(planes)
            if answer[0] == "bound":
                self.told(NoAnswer, degrees, planes)
                ends.add("more" if sum(new for _, new in table) > n else "degrees")
                continue
            ends.add("free")
            found = degrees(planes)
            self.assertEqual(found, [k for k, (_, new) in enumerate(table) for _ in range(new)])
            self.assertEqual((len(found), sum(found)), (n, m))
            poly = [1]
            for degree in found:
                poly = [a - degree * b for a, b in zip([0] + poly, poly + [0])]
            self.assertEqual(polynomial(planes), poly)
            self.assertTrue(all(lawful(planes, one) for one in answer[1]))
            told = poly_determinant(n, list(answer[1]))
            forms = self.product_of_forms(planes)
            self.assertEqual([powers for powers, _ in told], [powers for powers, _ in forms])
            factor = Fraction(told[0][1], forms[0][1])
            self.assertTrue(all(a == factor * b for (_, a), (_, b) in zip(told, forms)))
        self.assertEqual(ends, {"more", "degrees", "free"})

    def test_known_tables(self):
        self.assertEqual(degree_table(read_planes("2 1,0,0 0,1,0 1,-1,0")), [(0, 0), (1, 1), (3, 1)])
        self.assertEqual(degrees(read_planes("2 1,0,0 0,1,0 1,-1,0")), [1, 2])
        self.assertEqual(degree_table(GENERIC), [(0, 0), (1, 1), (6, 3)])
        self.assertEqual(freedom(GENERIC), ("bound", ((0, 0), (1, 1), (6, 3))))
        self.assertEqual(degree_table(ENDS_BY_DEGREES), [(0, 0), (1, 1), (3, 0), (8, 2)])
        self.assertEqual(freedom(ENDS_BY_DEGREES)[0], "bound")
        self.assertEqual(degrees(BRAID), [1, 2, 3])
        self.assertEqual(freedom(read_planes("1 1,0")), ("free", (((((1,), 1),),),)))

    def test_no_planes(self):
        for n in (1, 2, 3, 4):
            planes = Planes(n, [])
            self.assertEqual(degree_table(planes), [(n, n)])
            self.assertEqual(degrees(planes), [0] * n)
            self.assertEqual(freedom(planes)[0], "free")

    def test_two_letters(self):
        for many in range(1, 13):
            planes = origin_planes(many, 2, many, 9)
            self.assertEqual(degrees(planes), sorted([1, many - 1]))
        self.assertEqual(degrees(origin_planes(3, 2, 12, 1000)), [1, 11])

    def test_too_large(self):
        self.assertEqual(degree_table(origin_planes(7, 3, 7, 1000)), [(0, 0), (1, 1), (3, 0), (6, 0), (10, 0), (21, 6)])
        self.assertEqual(degree_table(origin_planes(7, 4, 5, 3)), [(0, 0), (1, 1), (10, 6)])
        for planes in (origin_planes(1, 3, 8, 2), origin_planes(1, 4, 6, 2)):
            for call in (degree_table, degrees, freedom):
                self.told(TooLarge, call, planes)

    def test_not_planes(self):
        far = Planes(3, origin_planes(1, 3, 8, 2).planes() + [(1, 0, 0, 1)])
        for planes in (EXAMPLE, far, read_planes("1 1,1")):
            for call in (degree_table, degrees, freedom, split_chain):
                self.told(NotPlanes, call, planes)
            self.told(NotPlanes, is_modular, planes, (7, 3))

    def test_without_and_shrunk(self):
        """[139]: what freedom tells of planes, of the others and of the shrunk ones."""
        both = 0
        for planes in LISTS:
            if planes.n == 1 or planes.n == 4 and len(planes) > 4:
                continue
            for at in range(len(planes)):
                others, fewer = planes.without(at), shrunk(planes, at)
                free = [freedom(told)[0] == "free" for told in (planes, others, fewer)]
                if free[0] and free[1]:
                    self.assertTrue(free[2])
                if free[2] and (free[0] or free[1]):
                    told = degrees(planes if free[0] else others)
                    rest = list(told)
                    for degree in degrees(fewer):
                        if degree in rest:
                            rest.remove(degree)
                    if len(rest) == 1:
                        self.assertTrue(all(free))
                if all(free):
                    both += 1
                    more, less = degrees(planes), list(degrees(others))
                    for degree in degrees(fewer):
                        more.remove(degree)
                        less.remove(degree)
                    self.assertEqual(more[0], less[0] + 1)
        self.assertGreater(both, 20)


class TestChains(unittest.TestCase, Refusals):

    def modular(self, told):
        flats = told.web()
        found = []
        for one in flats:
            fits = [told.rank(one) + told.rank(other) == told.rank(tuple(k for k in one if k in other))
                    + told.rank(told.flat(one + other)) for other in flats]
            if all(fits):
                found.append(one)
        return found

    def chains(self, told, modular):
        """All split chains, in the order of the web."""
        found = [[()]]
        for rank in range(1, told.planes.rank() + 1):
            level = [flat for flat in told.web() if told.rank(flat) == rank and flat in modular]
            found = [chain + [flat] for chain in found for flat in level if set(chain[-1]) <= set(flat)]
        return found

    def test_modular_flats_and_chains(self):
        some = none = 0
        for planes in LISTS + [LATER, origin_planes(4, 3, 7, 1), origin_planes(8, 4, 7, 1)]:
            told = Told(planes)
            modular = self.modular(told)
            for flat in told.web():
                self.assertIs(is_modular(planes, flat), flat in modular)
            chains = self.chains(told, modular)
            if not chains:
                none += 1
                self.told(NoAnswer, split_chain, planes)
                continue
            some += 1
            chain = split_chain(planes)
            self.assertEqual(chain, chains[0])
            if len(planes) <= (12, 12, 7, 5)[planes.n - 1]:
                steps = [len(flat) - len(before) for before, flat in zip(chain, chain[1:])]
                self.assertEqual(sorted(steps + [0] * (planes.n - planes.rank())), degrees(planes))
        self.assertGreater(min(some, none), 2)

    def test_by_hand(self):
        self.assertEqual(split_chain(BRAID), [(), (0,), (0, 1, 3), (0, 1, 2, 3, 4, 5)])
        self.assertEqual(split_chain(read_planes("3")), [()])
        self.told(NoAnswer, split_chain, GENERIC)
        self.assertIs(is_modular(BRAID, (0, 5)), False)
        self.assertIs(is_modular(BRAID, (0, 1, 3)), True)
        # The flat (0,) is modular, but none of a greater rank within it is.
        self.assertEqual(split_chain(LATER), [(), (1,), (1, 3, 4, 5), (0, 1, 2, 3, 4, 5, 6)])
        self.assertIs(is_modular(LATER, (0,)), True)
        # The first modular flat of the rank 3 is not within (0, 3).
        planes = read_planes("4 0,0,1,0,0 1,0,0,1,0 0,0,1,1,0 0,1,0,0,0 1,0,0,0,0 1,0,-1,0,0")
        self.assertIs(is_modular(planes, (0, 1, 2, 4, 5)), True)
        self.assertEqual(split_chain(planes), [(), (0,), (0, 3), (0, 3, 4, 5), (0, 1, 2, 3, 4, 5)])

    def test_not_flat(self):
        for flat in ((0, 1), (6,), (-1,), (1, 0), (0, 0), (0, BIG)):
            self.told(NotFlat, is_modular, BRAID, flat)

    def test_twelve_planes(self):
        self.told(NoAnswer, split_chain, origin_planes(9, 4, 12, 20))
        planes = origin_planes(9, 2, 12, 9)
        self.assertEqual(split_chain(planes), [(), (0,), tuple(range(12))])


if __name__ == "__main__":
    unittest.main()

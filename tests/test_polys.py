"""[130] and [131], as far as they speak of polynomials and forms."""

import unittest
from fractions import Fraction
from itertools import permutations, product
from random import Random

from planeworth.errors import BadNumber, NoAnswer, NotPlanes, NotPoint, NotPoly, TooLarge
from planeworth.polys import (check_poly, is_poly, plane_form, poly_determinant, poly_product, poly_sum, poly_times,
                              poly_value, quotient, slope)
from tests.helpers import BIG, Refusals, fractions, pair, pairs

# Tuples that are no polynomials of two letters.
SPOILT = [
    (((0, 1), 1), ((0, 0), 1)), (((1, 0), 2), ((0, 5), 1)), (((0, 1), 1), ((0, 1), 1)), (((0, 1), 1), ((0, 1), 2)),
    (((0, 1), 0),), (((0, 0), 1), ((0, 1), 0)), (((0,), 1),), (((0, 0, 0), 1),), (((), 1),), (((0, 1), 1), ((1,), 1)),
    (((-1, 1), 1),), (((1, -1), 1),), (((-1, 14), 1),), (((6, 7), 1),), (((0, 13), 1),), (((13, 0), 1),),
    (((0, 0), 1), ((12, 1), -1)), (((0, 0), 1), ((0, 0), -1)), (((BIG, 0), 1),)]


def dict_of(one):
    return dict(one)


def poly(found):
    """The polynomial with the integers of a dict."""
    return tuple(sorted((powers, a) for powers, a in found.items() if a))


def add(one, two, factor=1):
    found = dict_of(one)
    for powers, a in two:
        found[powers] = found.get(powers, 0) + factor * a
    return poly(found)


def times(one, two):
    found = {}
    for powers, a in one:
        for others, b in two:
            both = tuple(map(sum, zip(powers, others)))
            found[both] = found.get(both, 0) + a * b
    return poly(found)


def value(one, point):
    total = Fraction(0)
    for powers, a in one:
        part = Fraction(a)
        for k, x in zip(powers, point):
            part *= x ** k
        total += part
    return total


def every_powers(n, degree):
    return [powers for powers in product(range(degree + 1), repeat=n) if sum(powers) <= degree]


def random_poly(seed, n, degree, many=6, most=9):
    draw = Random(seed)
    chosen = every_powers(n, degree)
    return poly({draw.choice(chosen): draw.randint(-most, most) for _ in range(many)})


POLYS = [(n, random_poly(10 * n + d, n, d)) for n in (1, 2, 3, 4) for d in (0, 1, 2, 4, 6)] + [(n, ()) for n in (1, 4)]


class TestForm(unittest.TestCase, Refusals):

    def test_polynomials(self):
        for n, one in POLYS:
            self.assertIs(is_poly(n, one), True)
            self.assertIsNone(check_poly(n, one))
            if one:
                self.assertIs(is_poly(n % 4 + 1, one), False)
        for one in ((((12,), 1),), (((0,), -BIG), ((5,), 1), ((12,), 3)), ()):
            self.assertIs(is_poly(1, one), True)
        self.assertIs(is_poly(4, (((0, 0, 0, 0), 1), ((3, 3, 3, 3), 1))), True)
        self.assertIs(is_poly(4, (((3, 3, 3, 4), 1),)), False)
        self.assertIs(is_poly(1, (((13,), 1),)), False)

    def test_spoilt(self):
        good = (((0, 1), 1), ((1, 0), -2))
        for one in SPOILT:
            self.assertIs(is_poly(2, one), False)
            self.told(NotPoly, check_poly, 2, one)
            for call, more in ((poly_sum, ()), (poly_product, ())):
                self.told(NotPoly, call, 2, one, good)
                self.told(NotPoly, call, 2, good, one)
            self.told(NotPoly, poly_times, 2, one, 3)
            self.told(NotPoly, slope, 2, one, 7)
            self.told(NotPoly, poly_value, 2, one, ())
            self.told(NotPoly, quotient, 2, one, (0, 0, 0))
            self.told(NotPoly, poly_determinant, 2, [(good, good), (good, one)])
            self.told(NotPoly, poly_determinant, 2, [(one, good), (good, good)])

    def test_letters(self):
        for n in (0, 5, -1, BIG):
            for call, more in ((is_poly, ((((1,), 0),),)), (check_poly, ((((1,), 0),),)),
                               (poly_sum, (SPOILT[0], ())), (poly_product, (SPOILT[0], ())), (poly_times, (SPOILT[0], 1)),
                               (slope, (SPOILT[0], 9)), (poly_value, (SPOILT[0], ())), (plane_form, ((1, 1),)),
                               (quotient, (SPOILT[0], ())), (poly_determinant, ([SPOILT],))):
                self.told(BadNumber, call, n, *more)


class TestReckoning(unittest.TestCase, Refusals):

    def test_sums_and_multiples(self):
        for seed, (n, one) in enumerate(POLYS):
            two = random_poly(seed + 70, n, 5)
            self.assertEqual(poly_sum(n, one, two), add(one, two))
            self.assertEqual(poly_sum(n, one, ()), one)
            self.assertEqual(poly_sum(n, one, poly_times(n, one, -1)), ())
            for factor in (0, 1, -1, 7, BIG):
                self.assertEqual(poly_times(n, one, factor), add((), one, factor))
                self.assertTrue(is_poly(n, poly_times(n, one, factor)))

    def test_products(self):
        for seed, (n, one) in enumerate(POLYS):
            two = random_poly(seed + 170, n, 6)
            self.assertEqual(poly_product(n, one, two), times(one, two))
            self.assertEqual(poly_product(n, one, ()), ())
            self.assertEqual(poly_product(n, (), one), ())
        self.assertEqual(poly_product(1, (((0,), -1), ((1,), 1)), (((0,), 1), ((1,), 1))), (((0,), -1), ((2,), 1)))

    def test_products_of_high_degrees(self):
        one, two = (((0, 1), 2), ((7, 0), 1)), (((0, 0), 1), ((0, 5), 3))
        self.assertEqual(poly_product(2, one, two), times(one, two))
        self.told(TooLarge, poly_product, 2, one, (((1, 5), 1),))
        self.told(TooLarge, poly_product, 2, (((1, 5), 1),), one)
        # The greatest degree need not stand in the last term.
        self.told(TooLarge, poly_product, 2, (((0, 12), 1), ((1, 0), 1)), (((0, 1), 1), ((1, 0), -1)))
        top = (((12, 0), 1),)
        self.assertEqual(poly_product(2, top, ()), ())
        self.assertEqual(poly_product(2, (), top), ())
        self.assertEqual(poly_product(2, top, (((0, 0), 5),)), (((12, 0), 5),))
        self.told(TooLarge, poly_product, 2, top, top)

    def test_slopes(self):
        for n, one in POLYS:
            for index in range(n):
                due = {}
                for powers, a in one:
                    if powers[index]:
                        lower = list(powers)
                        lower[index] -= 1
                        due[tuple(lower)] = a * powers[index]
                self.assertEqual(slope(n, one, index), poly(due))
            for index in (-1, n, n + 1, BIG):
                self.told(BadNumber, slope, n, one, index)
        self.assertEqual(slope(2, (((0, 3), 2), ((1, 3), -1), ((2, 0), 5)), 0), (((0, 3), -1), ((1, 0), 10)))

    def test_values(self):
        for n, one in POLYS:
            for point in (pairs(*[0] * n), pairs(*["2/3", -3, "5/7", "-1/2"][:n]), pairs(*[BIG, 1, "1/9", 0][:n])):
                self.assertEqual(poly_value(n, one, point), pair(value(one, fractions(point))))
            for point in (pairs(*[1] * (n + 1)), pairs(*[1] * (n - 1)), ((2, 4),) * n, ((1, 0),) * n):
                self.told(NotPoint, poly_value, n, one, point)
        self.assertEqual(poly_value(1, (((0,), 1), ((12,), 1)), ((-1, 2),)), (4097, 4096))

    def test_nothing_is_modified(self):
        rows = [((((1, 0), 1),), (((0, 1), 1),)), ((((0, 1), 1),), (((1, 0), 1),))]
        before = list(rows)
        poly_determinant(2, rows)
        self.assertEqual(rows, before)


class TestForms(unittest.TestCase, Refusals):

    def test_plane_form(self):
        self.assertEqual(plane_form(3, (2, 0, -3, 0)), (((0, 0, 1), -3), ((1, 0, 0), 2)))
        self.assertEqual(plane_form(1, (-1, 0)), (((1,), -1),))
        self.assertEqual(plane_form(4, (1, 2, 3, 4, 0)),
                         (((0, 0, 0, 1), 4), ((0, 0, 1, 0), 3), ((0, 1, 0, 0), 2), ((1, 0, 0, 0), 1)))
        for plane in ((1, 0, 1), (0, 0, 0), (2, 4, 0), (1, 0), (1, 0, 0, 0), (1001, 1, 0), (1, 1, -2), ()):
            self.told(NotPlanes, plane_form, 2, plane)
            self.told(NotPlanes, quotient, 2, (), plane)

    def test_quotient(self):
        rows = {1: [(1, 0), (-1, 0)], 2: [(1, 0, 0), (0, -1, 0), (2, -3, 0), (999, 1000, 0)],
                3: [(0, 1, 0, 0), (2, -3, 5, 0), (0, 0, -1, 0)], 4: [(2, -3, 0, 1, 0), (0, 0, -1, 6, 0), (-1, 5, 7, 0, 0)]}
        for n, one in POLYS:
            for row in rows[n]:
                form = plane_form(n, row)
                self.assertEqual(quotient(n, times(one, form), row), one)
                self.told(NoAnswer, quotient, n, add(times(one, form), (((0,) * n, 1),)), row)

    def test_no_quotient(self):
        x, y = ((1, 0), 1), ((0, 1), 1)
        self.assertEqual(quotient(2, (), (1, 0, 0)), ())
        for one, row in (((x,), (0, 1, 0)), ((y, x), (1, -1, 0)), ((((0, 0), 1),), (1, 0, 0)), ((x,), (2, 1, 0)),
                         ((((1, 1), 1), ((2, 0), 1)), (2, 1, 0)), ((((0, 2), 1), ((2, 0), 1)), (1, 1, 0)),
                         ((((0, 1), 1), ((1, 0), 2)), (3, 1, 0))):
            self.told(NoAnswer, quotient, 2, one, row)
        # x1 x1 - x2 x2 is (x1 - x2) (x1 + x2).
        self.assertEqual(quotient(2, (((0, 2), -1), ((2, 0), 1)), (1, -1, 0)), (y, x))
        self.assertEqual(quotient(2, (((0, 2), -1), ((2, 0), 1)), (-1, -1, 0)), (((0, 1), 1), ((1, 0), -1)))
        self.assertEqual(quotient(1, (((12,), 4),), (-1, 0)), (((11,), -4),))


class TestDeterminants(unittest.TestCase, Refusals):

    def due(self, n, rows):
        total = ()
        for order in permutations(range(n)):
            wrong = sum(order[i] > order[j] for j in range(n) for i in range(j))
            part = (((0,) * n, 1),)
            for row, place in zip(rows, order):
                part = times(part, row[place])
            total = add(total, part, (-1) ** wrong)
        return total

    def test_over_all_orders(self):
        for n in (1, 2, 3, 4):
            for seed in range(6):
                rows = [tuple(random_poly(100 * seed + 10 * i + j, n, 12 // n if seed % 2 else i % 3, 4)
                              for j in range(n)) for i in range(n)]
                self.assertEqual(poly_determinant(n, rows), self.due(n, rows))
        x, y = (((1, 0), 1),), (((0, 1), 1),)
        self.assertEqual(poly_determinant(2, [(x, y), (y, x)]), (((0, 2), -1), ((2, 0), 1)))
        self.assertEqual(poly_determinant(2, [(x, y), (x, y)]), ())
        self.assertEqual(poly_determinant(2, [((), ()), (x, y)]), ())
        self.assertEqual(poly_determinant(1, [((((12,), 3),),)]), (((12,), 3),))

    def test_shape(self):
        x = (((1, 0), 1),)
        for rows in ([], [(x, x)], [(x, x)] * 3, [(x,), (x, x)], [(x, x), (x, x, x)], [(), ()], [(x, x), ()]):
            self.told(NotPoly, poly_determinant, 2, rows)

    def test_degrees(self):
        def power(k):
            return (((0, k), 1),)
        one = (((0, 0), 1),)
        self.assertEqual(poly_determinant(2, [(power(7), one), (one, power(5))]), (((0, 0), -1), ((0, 12), 1)))
        self.told(TooLarge, poly_determinant, 2, [(power(7), one), (one, power(6))])
        # The greatest degree of a tuple counts, also beside polynomials 0.
        self.told(TooLarge, poly_determinant, 2, [(power(7), ()), (power(6), ())])
        self.assertEqual(poly_determinant(2, [(power(12), ()), ((), ())]), ())
        self.assertEqual(poly_determinant(2, [(power(12), one), (one, one)]), (((0, 0), -1), ((0, 12), 1)))
        self.told(TooLarge, poly_determinant, 2, [(add(power(12), (((1, 0), 1),)), one), ((((1, 0), 1),), one)])


if __name__ == "__main__":
    unittest.main()

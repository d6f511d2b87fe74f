"""[80] to [84] and what [93] says of the web and its weights."""

import unittest
from math import gcd
from random import Random

from planeworth.errors import BadNumber, NoAnswer, NotFlat
from planeworth.flats import (flat_dimension, flat_of, is_flat, meet_of, meets, rank_of, span_of, web, weight)
from planeworth.planes import Planes
from planeworth.rooms import rooms
from planeworth.texts import read_planes
from tests.helpers import BIG, EXAMPLE, SMALL_LISTS, Refusals, Told, all_indexes, random_planes

LISTS = SMALL_LISTS + [random_planes(80 + n, n, 6, 3) for n in (1, 2, 3, 4)] + [
    read_planes("3 1,0,0,0 0,1,0,0 0,0,1,0 1,-1,0,0 1,1,0,0 1,0,-1,0"),
    read_planes("2 1,0,0 1,0,1 0,1,0 0,1,1 1,1,1 1,-1,0 1,1,5")]


TOLD = [Told(planes) for planes in LISTS]


class TestMeets(unittest.TestCase, Refusals):

    def test_meets_rank_and_flat(self):
        draw = Random(1)
        for told in TOLD:
            planes = told.planes
            for part in all_indexes(planes):
                mixed = list(part) + [draw.choice(part) for _ in range(2) if part]
                draw.shuffle(mixed)
                for indexes in (part, list(part), mixed, tuple(mixed)):
                    self.assertIs(meets(planes, indexes), told.meets(part))
                    self.assertEqual(rank_of(planes, indexes), told.rank(part))
                    if told.meets(part):
                        self.assertEqual(flat_of(planes, indexes), told.flat(part))
                    else:
                        self.told(NoAnswer, flat_of, planes, indexes)

    def test_no_planes(self):
        for indexes in ((), []):
            self.assertIs(meets(EXAMPLE, indexes), True)
            self.assertEqual(rank_of(EXAMPLE, indexes), 0)
            self.assertEqual(flat_of(EXAMPLE, indexes), ())

    def test_indexes_stay_as_they_were(self):
        indexes = [2, 0, 2]
        for call in (meets, rank_of, flat_of):
            call(EXAMPLE, indexes)
        self.assertEqual(indexes, [2, 0, 2])

    def test_indexes_that_are_none(self):
        for indexes in ((3,), (-1,), [0, 1, 2, 3], [3, 0], (0, 0, -4), (BIG,)):
            for call in (meets, rank_of, flat_of):
                self.told(BadNumber, call, EXAMPLE, indexes)
        self.told(BadNumber, flat_of, Planes(1, []), (0,))


class TestWeb(unittest.TestCase, Refusals):

    def test_all_flats_in_order(self):
        for told in TOLD:
            self.assertEqual(web(told.planes), told.web())
            self.assertIsInstance(web(told.planes), list)
            web(told.planes).clear()
            self.assertEqual(len(web(told.planes)), len(told.web()))

    def test_is_flat(self):
        for told in TOLD:
            flats = told.web()
            for part in all_indexes(told.planes):
                self.assertIs(is_flat(told.planes, part), part in flats)
        for flat in ((3,), (-1,), (-1, 0), (0, 3), (0, 1, 2), (0, BIG)):
            self.assertIs(is_flat(EXAMPLE, flat), False)
        for flat in ((1, 0), (0, 0), (1, 1)):
            self.assertIs(is_flat(EXAMPLE, flat), False)

    def test_dimensions(self):
        for told in TOLD:
            for flat in told.web():
                self.assertEqual(flat_dimension(told.planes, flat), told.planes.n - told.rank(flat))

    def test_spans_and_meets(self):
        for told in TOLD:
            flats = told.web()
            for one in flats[::2]:
                for other in flats[::3]:
                    both = tuple(sorted(set(one) | set(other)))
                    span = span_of(told.planes, one, other)
                    self.assertEqual(span, tuple(k for k in one if k in other))
                    self.assertIn(span, flats)
                    want = told.flat(both) if told.meets(both) else None
                    self.assertEqual(meet_of(told.planes, one, other), want)

    def test_meet_of_flats_that_do_not_meet(self):
        planes = Planes(1, [(1, 0), (1, 1)])
        self.assertIsNone(meet_of(planes, (0,), (1,)))
        self.assertIsNone(meet_of(EXAMPLE, (0, 1), (2,)))
        self.assertEqual(meet_of(EXAMPLE, (0,), (1,)), (0, 1))
        through = read_planes("2 1,0,0 0,1,0 1,1,0")
        self.assertEqual(meet_of(through, (0,), (2,)), (0, 1, 2))

    def test_not_flat(self):
        for flat in ((0, 1, 2), (3,), (-1,), (1, 0), (0, 0)):
            self.told(NotFlat, flat_dimension, EXAMPLE, flat)
            for call in (span_of, meet_of, weight):
                self.told(NotFlat, call, EXAMPLE, flat, ())
                self.told(NotFlat, call, EXAMPLE, (), flat)
            self.told(NotFlat, weight, EXAMPLE, flat)

    def test_a_large_web(self):
        generic = random_planes(60, 4, 12, 1000)
        flats = web(generic)
        self.assertEqual(len(flats), 1 + 12 + 66 + 220 + 495)
        self.assertEqual(flats[:2] + flats[-1:], [(), (0,), (8, 9, 10, 11)])
        central = Planes(4, [plane[:4] + (0,) for plane in generic.planes() if gcd(*plane[:4]) == 1])
        flats = web(central)
        self.assertEqual(flats[-1], tuple(range(len(central))))
        self.assertGreater(weight(central, flats[-1]), 0)


class TestWeights(unittest.TestCase, Refusals):

    def test_by_their_sums(self):
        for told in TOLD:
            flats = told.web()
            for start in flats[::2]:
                inner = [flat for flat in flats if set(start) <= set(flat)]
                weights = {flat: weight(told.planes, flat, start) for flat in inner}
                self.assertEqual(weights[start], 1)
                for flat in inner:
                    total = sum(weights[other] for other in inner if set(other) <= set(flat))
                    self.assertEqual(total, 1 if flat == start else 0)
                    sign = (-1) ** (told.rank(flat) - told.rank(start))
                    self.assertGreater(weights[flat] * sign, 0)

    def test_from_no_planes(self):
        for told in TOLD:
            for flat in told.web():
                self.assertEqual(weight(told.planes, flat), weight(told.planes, flat, start=()))
            total = sum(abs(weight(told.planes, flat)) for flat in told.web())
            self.assertEqual(total, len(rooms(told.planes)))

    def test_not_within(self):
        self.told(NoAnswer, weight, EXAMPLE, (0,), (1,))
        self.told(NoAnswer, weight, EXAMPLE, (), (0,))
        self.told(NoAnswer, weight, EXAMPLE, (0,), (0, 1))
        self.told(NoAnswer, weight, EXAMPLE, (0, 1), (2,))

    def test_not_flat_goes_ahead(self):
        self.told(NotFlat, weight, EXAMPLE, (0,), (0, 1, 2))
        self.told(NotFlat, weight, EXAMPLE, (7,), (1,))

    def test_example(self):
        flats = [(), (0,), (1,), (2,), (0, 1), (0, 2), (1, 2)]
        self.assertEqual(web(EXAMPLE), flats)
        self.assertEqual([weight(EXAMPLE, flat) for flat in flats], [1, -1, -1, -1, 1, 1, 1])
        through = read_planes("2 1,0,0 0,1,0 1,1,0")
        self.assertEqual(weight(through, (0, 1, 2)), 2)
        self.assertEqual(weight(through, (0, 1, 2), (1,)), -1)
        self.assertEqual(weight(through, (1,), (1,)), 1)


if __name__ == "__main__":
    unittest.main()

"""[100] and [101]: empty and tied products, circuits, allowed products."""

import unittest
from itertools import combinations

from planeworth.circuits import allowed, broken, circuits, is_allowed, is_empty, is_tied
from planeworth.counting import polynomial
from planeworth.errors import BadNumber, NotSum
from planeworth.planes import Planes
from planeworth.texts import read_planes
from tests.helpers import BIG, EXAMPLE, SMALL_LISTS, Refusals, Told, all_indexes, random_planes

LISTS = SMALL_LISTS + [random_planes(10 * n, n, 6, most) for n in (1, 2, 3, 4) for most in (1, 1000) if n + most > 2] + [
    read_planes("2 1,1,0 1,0,0 0,1,0 1,-1,0 1,0,1 0,1,1"), read_planes("3 1,0,0,0 0,1,0,0 1,1,0,0 0,0,1,0 1,1,1,0 1,0,1,3"),
    read_planes("4 1,0,0,0,0 0,1,0,0,0 0,0,1,0,0 0,0,0,1,0 1,1,1,1,0 1,-1,0,0,0 0,0,1,-1,0")]


class Tried:
    """Circuits and allowed products, by all sets of planes."""

    def __init__(self, planes):
        told = Told(planes)
        self.empty = [part for part in all_indexes(planes) if not told.meets(part)]
        self.tied = [part for part in all_indexes(planes) if told.meets(part) and told.rank(part) < len(part)]
        self.circuits = [part for part in self.tied
                         if not any(part[:k] + part[k + 1:] in self.tied for k in range(len(part)))]
        tails = {part[1:] for part in self.circuits}
        self.broken = sorted(tails, key=lambda part: (len(part), part))
        self.allowed = [part for part in all_indexes(planes) if part not in self.empty
                        and not any(set(tail) <= set(part) for tail in self.broken)]


TRIED = [(planes, Tried(planes)) for planes in LISTS]


class TestCircuits(unittest.TestCase, Refusals):

    def test_all_sets(self):
        for planes, tried in TRIED:
            for part in all_indexes(planes):
                self.assertIs(is_empty(planes, part), part in tried.empty)
                self.assertIs(is_tied(planes, part), part in tried.tied)
                self.assertIs(is_allowed(planes, part), part in tried.allowed)

    def test_circuits_in_order(self):
        many = 0
        for planes, tried in TRIED:
            self.assertEqual(circuits(planes), tried.circuits)
            self.assertEqual(broken(planes), tried.broken)
            self.assertTrue(all(len(part) >= 3 for part in circuits(planes)))
            many += len(tried.circuits)
        self.assertGreater(many, 25)

    def test_broken_ones_stand_once(self):
        planes = read_planes("2 1,0,0 0,1,0 1,1,0 1,-1,0")
        self.assertEqual(circuits(planes), [(0, 1, 2), (0, 1, 3), (0, 2, 3), (1, 2, 3)])
        self.assertEqual(broken(planes), [(1, 2), (1, 3), (2, 3)])

    def test_allowed_of_each_size(self):
        for planes, tried in TRIED:
            poly = polynomial(planes)
            for size in range(13):
                found = allowed(planes, size)
                self.assertEqual(found, [part for part in tried.allowed if len(part) == size])
                self.assertEqual(len(found), abs(poly[planes.n - size]) if size <= planes.n else 0)

    def test_sizes(self):
        for size in (-1, 13, -BIG, BIG):
            self.told(BadNumber, allowed, EXAMPLE, size)
            self.told(BadNumber, allowed, read_planes("3"), size)
        self.assertEqual(allowed(read_planes("3"), 0), [()])
        self.assertEqual(allowed(read_planes("3"), 12), [])

    def test_wrong_products(self):
        for call in (is_empty, is_tied, is_allowed):
            for product in ((3,), (-1,), (0, 3), (3, 0), (1, 1, 7), (2, 1, -1), (BIG,)):
                self.told(BadNumber, call, EXAMPLE, product)
            for product in ((1, 0), (0, 0), (0, 2, 1), (0, 1, 1)):
                self.told(NotSum, call, EXAMPLE, product)
            self.told(BadNumber, call, read_planes("1"), (0,))

    def test_twelve_planes(self):
        planes = random_planes(60, 4, 12, 1000)
        self.assertEqual(allowed(planes, 4), list(combinations(range(12), 4)))
        self.assertEqual(circuits(planes), [])
        central = Planes(4, [plane[:4] + (0,) for plane in random_planes(4, 4, 12, 20).planes()])
        self.assertEqual(len(allowed(central, 4)), polynomial(central)[0])
        self.assertEqual(len(circuits(central)), 792)
        self.assertEqual(broken(central), [part for part in combinations(range(1, 12), 4)])

    def test_returned_lists_may_be_changed(self):
        planes = read_planes("2 1,0,0 0,1,0 1,1,0")
        for call in (circuits, broken, lambda told: allowed(told, 2)):
            want = list(call(planes))
            call(planes).clear()
            call(planes).append("x")
            self.assertEqual(call(planes), want)

    def test_example(self):
        planes = read_planes("2 1,0,0 0,1,0 1,1,0")
        self.assertEqual(circuits(planes), [(0, 1, 2)])
        self.assertEqual(broken(planes), [(1, 2)])
        self.assertEqual(allowed(planes, 2), [(0, 1), (0, 2)])


if __name__ == "__main__":
    unittest.main()

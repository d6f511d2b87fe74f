"""[176] to [178]: signs of determinants."""

import unittest
from itertools import combinations, permutations, product
from random import Random

from planeworth.determinants import exchange_fault, least_of, sign_of, signs_of
from planeworth.errors import BadNumber, NoAnswer, NotPlanes, NotSigns
from planeworth.moves import Move
from planeworth.planes import Planes
from planeworth.rooms import faces
from planeworth.signrows import least_rows
from planeworth.texts import read_planes
from tests.helpers import (BIG, EXAMPLE, ORIGIN_LISTS, Refusals, determinant_by_orders, origin_planes, pairs)

FULL = [planes for planes in ORIGIN_LISTS if 1 <= len(planes) <= 7 and planes.rank() == planes.n] + [
    origin_planes(3, 3, 6, 1), origin_planes(4, 4, 6, 2), origin_planes(5, 3, 7, 9), origin_planes(6, 2, 7, 3),
    origin_planes(8, 4, 7, 1)]
WORTH = {"+": 1, "-": -1, "0": 0}
LETTERS = {1: "+", -1: "-", 0: "0"}


def worth(k, r, signs, indexes):
    """The sign of some indexes as 1, -1 or 0, by swaps of neighbours that sort them."""
    rest, turn = list(indexes), 1
    if len(set(rest)) < len(rest):
        return 0
    for _ in rest:
        for at in range(len(rest) - 1):
            if rest[at] > rest[at + 1]:
                rest[at], rest[at + 1] = rest[at + 1], rest[at]
                turn = -turn
    return turn * WORTH[signs[list(combinations(range(k), r)).index(tuple(rest))]]


def fault(k, r, signs):
    """The first fault, law by law."""
    if set(signs) == {"0"}:
        return ("zero",)
    tuples = list(combinations(range(k), r))
    bases = [b for b in tuples if worth(k, r, signs, b)]
    for b in bases:
        for c in bases:
            for i in sorted(set(b) - set(c)):
                if not any(worth(k, r, signs, [j if at == i else at for at in b]) for j in set(c) - set(b)):
                    return ("base", b, c, i)
    if r == 1:
        return None
    for x in combinations(range(k), r - 2):
        for y in combinations([at for at in range(k) if at not in x], 4):
            a, b, c, d = y

            def chi(i, j):
                return worth(k, r, signs, x + (i, j))
            values = {chi(a, b) * chi(c, d), -chi(a, c) * chi(b, d), chi(a, d) * chi(b, c)} - {0}
            if len(values) == 1:
                return ("exchange", x, y)
    return None


def det_signs(planes):
    rows = [plane[:-1] for plane in planes.planes()]
    found = [determinant_by_orders(part) for part in combinations(rows, planes.n)]
    return "".join("+" if x > 0 else "-" if x < 0 else "0" for x in found)


class TestSigns(unittest.TestCase, Refusals):

    def test_orders(self):
        draw = Random(1)
        for k, r in ((1, 1), (3, 1), (3, 2), (5, 2), (4, 3), (6, 3), (4, 4), (6, 4)):
            many = len(list(combinations(range(k), r)))
            for _ in range(6):
                signs = "".join(draw.choice("+-0") for _ in range(many))
                for indexes in list(product(range(k), repeat=r))[::1 if k < 5 else 7]:
                    self.assertEqual(sign_of(k, r, signs, indexes), LETTERS[worth(k, r, signs, indexes)])
        for order in permutations(range(4)):
            wrong = sum(order[i] > order[j] for j in range(4) for i in range(j))
            self.assertEqual(sign_of(4, 4, "+", order), "-" if wrong % 2 else "+")

    def test_errors_in_their_order(self):
        calls = [(exchange_fault, ()), (least_of, ()), (sign_of, ((9, 9, 9, 9, 9),))]
        for call, more in calls:
            for k in (0, 8, -1, BIG):
                self.told(BadNumber, call, k, 1, "", *more)
            for k, r in ((3, 0), (3, 4), (7, 5), (3, -1), (1, 2), (5, BIG)):
                self.told(BadNumber, call, k, r, "", *more)
            for signs in ("", "++", "++++", "++x", "+ +", "++1"):
                self.told(NotSigns, call, 3, 2, signs, *more)
            self.told(NotSigns, call, 7, 4, "+" * 34, *more)
        for indexes in ((), (0,), (0, 1, 2), (0, 3), (-1, 0), (3, 3), (0, BIG)):
            self.told(BadNumber, sign_of, 3, 2, "++-", indexes)
        self.assertEqual(sign_of(7, 4, "+" * 34 + "-", (3, 4, 5, 6)), "-")
        self.assertEqual(sign_of(7, 1, "+-0+-0+", (5,)), "0")


class TestFaults(unittest.TestCase, Refusals):

    def test_first_faults(self):
        draw = Random(3)
        seen = {}
        given = [(k, r, "".join(signs)) for k, r in ((1, 1), (3, 1), (2, 2), (3, 2), (3, 3))
                 for signs in product("+-0", repeat=len(list(combinations(range(k), r))))]
        for k, r in ((4, 2), (5, 2), (5, 3), (6, 4), (7, 2)):
            many = len(list(combinations(range(k), r)))
            for kinds in ("+-0", "+-", "+0", "000+-"):
                given += [(k, r, "".join(draw.choice(kinds) for _ in range(many))) for _ in range(15)]
        for planes in FULL:
            signs = det_signs(planes)
            for _ in range(8):
                at = draw.randrange(len(signs))
                given.append((len(planes), planes.n, signs[:at] + draw.choice("+-0") + signs[at + 1:]))
        for k, r, signs in given:
            found = exchange_fault(k, r, signs)
            self.assertEqual(found, fault(k, r, signs))
            kind = found and found[0]
            seen[kind] = seen.get(kind, 0) + 1
        self.assertEqual(set(seen), {None, "zero", "base", "exchange"})
        self.assertGreater(min(seen.values()), 4)

    def test_by_hand(self):
        self.assertEqual(exchange_fault(3, 2, "000"), ("zero",))
        self.assertIsNone(exchange_fault(3, 2, "++-"))
        self.assertEqual(exchange_fault(4, 2, "+0000+"), ("base", (0, 1), (2, 3), 0))
        self.assertEqual(exchange_fault(4, 2, "+-++++"), ("exchange", (), (0, 1, 2, 3)))
        self.assertIsNone(exchange_fault(4, 2, "++++++"))
        self.assertIsNone(exchange_fault(2, 1, "+0"))

    def test_planes_have_none(self):
        for planes in FULL:
            self.assertIsNone(exchange_fault(len(planes), planes.n, signs_of(planes)))


class TestPlanes(unittest.TestCase, Refusals):

    def test_signs_of_planes(self):
        for planes in FULL:
            self.assertEqual(signs_of(planes), det_signs(planes))

    def test_least_faces(self):
        for planes in FULL:
            told = least_of(len(planes), planes.n, signs_of(planes))
            self.assertEqual(told, least_rows(faces(planes)))
            self.assertEqual(told, sorted(set(told)))

    def test_least_of_any_signs(self):
        draw = Random(5)
        for k, r in ((1, 1), (3, 1), (4, 2), (5, 3), (6, 4), (7, 4)):
            many = len(list(combinations(range(k), r)))
            for _ in range(5):
                signs = "".join(draw.choice("+-00") for _ in range(many))
                due = set()
                for part in combinations(range(k), r - 1):
                    row = [worth(k, r, signs, part + (at,)) for at in range(k)]
                    if any(row):
                        due |= {"".join(LETTERS[x * turn] for x in row) for turn in (1, -1)}
                self.assertEqual(least_of(k, r, signs), sorted(due))
        self.assertEqual(least_of(3, 2, "000"), [])
        self.assertEqual(least_of(2, 1, "+-"), ["+-", "-+"])

    def test_other_letters_and_turned_planes(self):
        for planes in FULL:
            n = planes.n
            if n == 1:
                continue
            rows = [tuple([2 if j == k else 1 if j == (k + 1) % n else 0 for j in range(n)]) for k in range(n)]
            moved = Move(n, [pairs(*row) for row in rows], pairs(*[0] * n)).planes(planes)
            self.assertEqual(faces(moved), faces(planes))
            self.assertEqual(signs_of(moved), signs_of(planes))
            swapped = Planes(n, [plane[1::-1] + plane[2:] for plane in planes.planes()])
            self.assertEqual(faces(swapped), faces(planes))
            self.assertEqual(signs_of(swapped), signs_of(planes).translate(str.maketrans("+-", "-+")))
            for at in range(len(planes)):
                turned = planes.turned(at)
                same = signs_of(turned) in (signs_of(planes), signs_of(swapped))
                self.assertIs(faces(turned) == faces(planes), same)

    def test_errors_in_their_order(self):
        self.told(NotPlanes, signs_of, EXAMPLE)
        self.told(NotPlanes, signs_of, Planes(2, origin_planes(1, 2, 8, 5).planes() + [(1, 0, 1)]))
        for planes in (read_planes("1"), read_planes("4"), origin_planes(1, 2, 8, 5), origin_planes(1, 3, 12, 5)):
            self.told(BadNumber, signs_of, planes)
        flat = Planes(3, [plane[:2] + (0, 0) for plane in origin_planes(1, 2, 8, 5).planes()])
        self.told(BadNumber, signs_of, flat)
        self.told(NoAnswer, signs_of, flat.without(0))
        self.told(NoAnswer, signs_of, read_planes("2 1,0,0"))
        self.assertEqual(signs_of(read_planes("1 -1,0")), "-")

    def test_example(self):
        planes = read_planes("2 1,0,0 0,1,0 1,1,0")
        self.assertEqual(signs_of(planes), "++-")
        self.assertEqual(least_of(3, 2, "++-"), ["+-0", "+0+", "-+0", "-0-", "0++", "0--"])


if __name__ == "__main__":
    unittest.main()

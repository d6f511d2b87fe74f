"""[170] to [175] and what [178] says of lists of sign rows."""

import unittest
from itertools import combinations
from random import Random

from planeworth.errors import BadNumber, NotPlanes, NotSigns, TooLarge
from planeworth.planes import Planes
from planeworth.rooms import faces, rooms
from planeworth.signrows import (apart_from, check_sign_list, is_sign_list, least_rows, opposites, put_behind,
                                 row_closure, row_fault, rows_of_rooms, sign_circuits, stand_apart)
from planeworth.texts import read_planes
from tests.helpers import BIG, EXAMPLE, ORIGIN_LISTS, Refusals, all_rows, origin_planes, reduced

THROUGH = read_planes("2 1,0,0 0,1,0 1,1,0")
FEW = [planes for planes in ORIGIN_LISTS if 1 <= len(planes) <= 7] + [
    origin_planes(3, 3, 6, 1), origin_planes(4, 4, 6, 2), origin_planes(5, 3, 7, 9)]
NO_ROWS = ["", "x", "+ ", "+1", "++++++++", "+-0+-0+-", "+\n", "\u2212"]
NO_LISTS = [["-", "+"], ["0", "-"], ["+", "+"], ["+", "+0"], ["", "+"], [""], ["x"], ["+0", "0"], ["++++++++"],
            ["+", "-", "0", "0"], ["00", "+0"]]


def behind(one, two):
    return "".join(b if a == "0" else a for a, b in zip(one, two))


def turned(row):
    return row.translate(str.maketrans("+-", "-+"))


def parted(one, two):
    return [k for k, pair in enumerate(zip(one, two)) if set(pair) == {"+", "-"}]


def apart(one, two):
    both = [k for k in range(len(one)) if one[k] != "0" and two[k] != "0"]
    same = [k for k in both if one[k] == two[k]]
    return not both or bool(same) and len(same) < len(both)


def fault(rows):
    """The first fault, law by law."""
    if not rows or "0" * len(rows[0]) not in rows:
        return ("zero",)
    for x in rows:
        if turned(x) not in rows:
            return ("turn", x)
    for x in rows:
        for y in rows:
            if behind(x, y) not in rows:
                return ("behind", x, y)
    for x in rows:
        for y in rows:
            for i in parted(x, y):
                others = [k for k in range(len(x)) if k not in parted(x, y)]
                if not any(z[i] == "0" and all(z[k] == behind(x, y)[k] for k in others) for z in rows):
                    return ("between", x, y, i)
    return None


def support(row):
    return {k for k, letter in enumerate(row) if letter != "0"}


def least(rows):
    return [row for row in rows if support(row) and not any(set() < support(other) < support(row) for other in rows)]


def closure(k, rows):
    found = {"0" * k} | set(rows)
    while True:
        more = {behind(x, y) for x in found for y in found} - found
        if not more:
            return sorted(found)
        found |= more


def circuits(planes):
    """Sets of planes with one dependence that leaves none of them out, as sign rows."""
    rows = [plane[:-1] for plane in planes.planes()]
    found = []
    for size in range(1, len(rows) + 1):
        for part in combinations(range(len(rows)), size):
            if any(set(other) <= set(part) for other, _ in found):
                continue
            told = reduced([[rows[at][k] for at in part] for k in range(planes.n)])
            if len(told) < size:
                # All but the last one are independent, so each number is told by the last one.
                numbers = [-row[-1] for row in told] + [1]
                found.append((part, numbers))
    made = []
    for part, numbers in found:
        row = ["0"] * len(rows)
        for at, x in zip(part, numbers):
            row[at] = "+" if x > 0 else "-"
        made += ["".join(row), turned("".join(row))]
    return sorted(made)


class TestRows(unittest.TestCase, Refusals):

    def test_two_rows(self):
        for k in (1, 2, 3):
            for one in all_rows(k):
                for two in all_rows(k):
                    self.assertEqual(put_behind(one, two), behind(one, two))
                    self.assertEqual(opposites(one, two), parted(one, two))
                    self.assertIs(stand_apart(one, two), apart(one, two))
        draw = Random(2)
        for _ in range(200):
            one, two = ("".join(draw.choice("+-0") for _ in range(7)) for _ in range(2))
            self.assertEqual(put_behind(one, two), behind(one, two))
            self.assertEqual(opposites(one, two), parted(one, two))
            self.assertIs(stand_apart(one, two), apart(one, two))

    def test_no_rows(self):
        for call in (put_behind, opposites, stand_apart):
            for row in NO_ROWS:
                self.told(NotSigns, call, row, "+")
                self.told(NotSigns, call, "+", row)
                self.told(NotSigns, call, row, row)
            self.told(NotSigns, call, "+-", "+")
            self.told(NotSigns, call, "+", "+-0")

    def test_lists(self):
        for rows in ([], ["0"], ["+", "-", "0"], ["++", "+0", "-+", "00"], ["+++++++", "0000000"], all_rows(4)):
            self.assertIs(is_sign_list(rows), True)
            self.assertIsNone(check_sign_list(rows))
        for rows in NO_LISTS + [[row] for row in NO_ROWS]:
            self.assertIs(is_sign_list(rows), False)
            for call in (check_sign_list, row_fault, least_rows):
                self.told(NotSigns, call, rows)
            for call in (row_closure, apart_from, rows_of_rooms):
                for k in (1, 2, 7):
                    self.told(NotSigns, call, k, rows)

    def test_numbers_k(self):
        for call in (row_closure, apart_from, rows_of_rooms):
            for k in (0, 8, -1, BIG):
                self.told(BadNumber, call, k, [])
                self.told(BadNumber, call, k, ["-", "+"])
            for k in (1, 3, 7):
                self.told(NotSigns, call, k, ["++"])
        self.assertEqual(row_closure(7, []), ["0" * 7])
        self.assertEqual(row_closure(1, []), ["0"])
        self.assertEqual(apart_from(2, []), all_rows(2))
        self.assertEqual(rows_of_rooms(2, []), all_rows(2))


class TestFaults(unittest.TestCase, Refusals):

    def test_first_faults(self):
        seen = {}
        draw = Random(4)
        lists = [[], ["0"], ["+"], ["+", "0"], ["+", "-", "0"], ["+", "-"]]
        for planes in FEW[:12]:
            rows = faces(planes)
            if len(rows) <= 80:
                lists.append(rows)
                for _ in range(12):
                    left_out = draw.sample(rows, min(len(rows), draw.randint(1, 2)))
                    lists.append([row for row in rows if row not in left_out])
                    both = left_out + [turned(row) for row in left_out]
                    lists.append([row for row in rows if row not in both])
        for _ in range(150):
            some = draw.sample(all_rows(3), draw.randint(1, 4))
            some += [turned(row) for row in some] + ["000"]
            lists += [sorted(set(some)), closure(3, sorted(set(some)))]
        for rows in lists:
            before = list(rows)
            found = row_fault(rows)
            self.assertEqual(found, fault(rows))
            self.assertEqual(rows, before)
            kind = found and found[0]
            seen[kind] = seen.get(kind, 0) + 1
        self.assertEqual(set(seen), {None, "zero", "turn", "behind", "between"})
        self.assertGreater(min(seen.values()), 3)

    def test_by_hand(self):
        self.assertEqual(row_fault([]), ("zero",))
        self.assertEqual(row_fault(["+", "-"]), ("zero",))
        self.assertEqual(row_fault(["+", "0"]), ("turn", "+"))
        self.assertIsNone(row_fault(["+", "-", "0"]))
        self.assertIsNone(row_fault(["000"]))
        self.assertEqual(row_fault(["+0", "-0", "0+", "0-", "00"]), ("behind", "+0", "0+"))
        self.assertEqual(row_fault(["++", "+-", "-+", "--", "00"]), ("between", "++", "+-", 1))
        self.assertEqual(row_fault(["++", "--", "00"]), None)

    def test_sizes(self):
        self.assertIsNone(row_fault(all_rows(3)))
        rows = all_rows(4)
        self.assertEqual(len(rows), 81)
        self.told(TooLarge, row_fault, rows)
        self.assertEqual(row_fault(rows[1:]), ("turn", "----"))
        self.assertEqual(row_fault(rows[:80]), ("zero",))
        self.told(NotSigns, row_fault, rows + ["+"])

    def test_faces_have_none(self):
        for planes in FEW:
            rows = faces(planes)
            if len(rows) <= 80:
                self.assertIsNone(row_fault(rows))
            self.assertTrue(is_sign_list(rows))


class TestRoads(unittest.TestCase, Refusals):

    def test_least_rows(self):
        draw = Random(6)
        for k in (1, 2, 3, 4):
            for _ in range(30):
                rows = sorted(draw.sample(all_rows(k), draw.randint(0, 3 ** k)))
                self.assertEqual(least_rows(rows), least(rows))
        self.assertEqual(least_rows([]), [])
        self.assertEqual(least_rows(["000"]), [])
        self.assertEqual(least_rows(["+++", "---"]), ["+++", "---"])
        # A row with signs at the same places does not keep another one from being least.
        self.assertEqual(least_rows(["++0", "+-0", "0+0"]), ["0+0"])
        self.assertEqual(least_rows(["++0", "+-0", "00+"]), ["++0", "+-0", "00+"])
        self.assertEqual(len(least_rows(all_rows(7))), 14)

    def test_closures(self):
        draw = Random(7)
        for k in (1, 2, 3, 4):
            for _ in range(20):
                rows = sorted(draw.sample(all_rows(k), draw.randint(0, min(6, 3 ** k))))
                before = list(rows)
                self.assertEqual(row_closure(k, rows), closure(k, rows))
                self.assertEqual(rows, before)
        self.assertEqual(row_closure(2, ["+0", "0+"]), ["++", "+0", "0+", "00"])
        self.assertEqual(row_closure(7, all_rows(7)), all_rows(7))
        few = [row for row in all_rows(5) if row.count("0") == 3]
        self.assertEqual(row_closure(5, few), closure(5, few))

    def test_rows_apart(self):
        draw = Random(8)
        for k in (1, 2, 3, 4):
            for _ in range(20):
                rows = sorted(draw.sample(all_rows(k), draw.randint(0, min(6, 3 ** k))))
                due = [row for row in all_rows(k) if all(apart(row, other) for other in rows)]
                self.assertEqual(apart_from(k, rows), due)
                due = [row for row in all_rows(k) if all(behind(row, other) in rows for other in rows)]
                self.assertEqual(rows_of_rooms(k, rows), due)
        self.assertEqual(apart_from(7, all_rows(7)), ["0" * 7])

    def test_four_roads_to_the_faces(self):
        for planes in FEW:
            k, rows = len(planes), faces(planes)
            self.assertEqual(row_closure(k, least_rows(rows)), rows)
            self.assertEqual(apart_from(k, sign_circuits(planes)), rows)
            self.assertEqual(rows_of_rooms(k, rooms(planes)), rows)

    def test_circuits(self):
        for planes in FEW:
            k, told = len(planes), sign_circuits(planes)
            self.assertEqual(told, circuits(planes))
            self.assertTrue(is_sign_list(told))
            every = row_closure(k, told)
            if len(every) <= 80:
                self.assertIsNone(row_fault(every))
            self.assertEqual(apart_from(k, faces(planes)), every)
            self.assertEqual(least_rows(every), told)

    def test_planes_that_are_refused(self):
        self.told(NotPlanes, sign_circuits, EXAMPLE)
        self.told(NotPlanes, sign_circuits, Planes(2, origin_planes(1, 2, 8, 5).planes() + [(1, 0, 1)]))
        for n in (1, 2, 3, 4):
            self.told(BadNumber, sign_circuits, Planes(n, []))
        self.told(BadNumber, sign_circuits, origin_planes(1, 2, 8, 5))
        self.told(BadNumber, sign_circuits, origin_planes(1, 3, 12, 5))
        self.assertEqual(sign_circuits(read_planes("1 1,0")), [])
        self.assertEqual(len(sign_circuits(origin_planes(1, 2, 7, 9))), 70)

    def test_example(self):
        self.assertEqual(sign_circuits(THROUGH), ["++-", "--+"])
        rows = faces(THROUGH)
        self.assertEqual((len(rows), len([row for row in rows if "0" not in row])), (13, 6))
        self.assertEqual(least_rows(rows), ["+-0", "+0+", "-+0", "-0-", "0++", "0--"])
        self.assertEqual(row_fault(["+", "0"]), ("turn", "+"))


if __name__ == "__main__":
    unittest.main()

"""[210] to [217]: walks on rooms."""

import unittest
from fractions import Fraction
from itertools import permutations
from random import Random

from planeworth.errors import BadNumber, NoAnswer, NotFlat, NotNumber, NotRow, TooLarge
from planeworth.planes import Planes
from planeworth.rooms import faces, rooms
from planeworth.texts import read_planes
from planeworth.walks import (after, away, away_bound, check_chances, diagonal_sum, drawn, is_rest, reaches, rest, share,
                              shares, step_table, steps_table)
from tests.helpers import (BIG, EXAMPLE, NO_NUMBERS, SMALL_LISTS, Refusals, Told, dot, fractions, origin_planes, pair,
                           pairs, random_planes, reduced)

LINE = read_planes("1 1,0")
THROUGH = read_planes("2 1,0,0 0,1,0 1,1,0")
BRAID = read_planes("3 1,0,0,0 0,1,0,0 0,0,1,0 1,-1,0,0 1,0,-1,0 0,1,-1,0")
LINES = read_planes("2 1,0,0 0,1,0 1,-1,0 1,2,1 2,1,5 3,1,7 1,5,9 1,7,23 1,9,40 1,11,71")
SPACE = read_planes("4 1,0,0,0,0 0,1,0,0,0 0,0,1,0,0 0,0,0,1,0 1,1,1,1,1 1,2,3,4,5")
STEEP = [(1, -k, k * k * k) for k in range(2, 7)]
SIXTY = Planes(2, read_planes("2 1,0,0 1,0,1 1,0,2 1,0,3 0,1,100 0,1,101").planes() + STEEP)
MORE = Planes(2, SIXTY.planes()[:5] + [(1, 1, 1)] + STEEP)
LISTS = [planes for planes in SMALL_LISTS + [THROUGH, BRAID, random_planes(4, 2, 5, 2), origin_planes(4, 3, 5, 1)]
         if len(rooms(planes)) <= 60]


def put(one, other):
    """The product of two rows of sides, by [63]."""
    return "".join(a if a != "0" else b for a, b in zip(one, other))


def chances_of(chosen, weights):
    """Chances in proportion to the weights."""
    return [(face, pair(Fraction(w, sum(weights)))) for face, w in zip(chosen, weights)]


def random_chances(seed, planes, most=12, least=1):
    """Chances of random faces, also some of a lesser dimension alone."""
    draw = Random(seed)
    pool = faces(planes)
    if seed % 3 == 1:
        pool = [face for face in pool if "0" in face] or pool
    chosen = draw.sample(pool, min(len(pool), draw.randint(least, most)))
    return chances_of(chosen, [draw.randint(1, 8) for _ in chosen])


def numbers_of(chances):
    return [(face, Fraction(*x)) for face, x in chances]


def oracle_table(planes, chances):
    """The step table as fractions."""
    told = rooms(planes)
    return [[sum((x for face, x in numbers_of(chances) if put(face, c) == d), Fraction(0)) for d in told] for c in told]


def product_of(one, other):
    columns = list(zip(*other))
    return [[dot(row, column) for column in columns] for row in one]


def unit_table(many):
    return [[Fraction(i == j) for j in range(many)] for i in range(many)]


def power_of(table, k):
    found = unit_table(len(table))
    for _ in range(k):
        found = product_of(found, table)
    return found


def unchanged(table, row):
    """Whether a step does not change a row of fractions."""
    return all(dot(row, column) == x for x, column in zip(row, zip(*table)))


def reach_all(planes, chances):
    return all(any(face[at] != "0" for face, _ in chances) for at in range(len(planes)))


def drawn_in_orders(planes, chances):
    """The probabilities of the products, over all orders."""
    found = dict.fromkeys(rooms(planes), Fraction(0))
    for order in permutations(numbers_of(chances)):
        left, worth, row = Fraction(1), Fraction(1), "0" * len(planes)
        for face, x in order:
            worth *= x / left
            left -= x
            row = put(row, face)
        found[row] += worth
    return list(found.values())


CASES = [(planes, random_chances(seed, planes)) for planes in LISTS for seed in range(3)]
CASES += [(LINES, random_chances(7, LINES)), (SPACE, random_chances(8, SPACE)), (SPACE, random_chances(10, SPACE))]


class TestTables(unittest.TestCase):

    def test_tables_of_steps(self):
        for planes, chances in CASES:
            table = oracle_table(planes, chances)
            found = step_table(planes, chances)
            self.assertEqual(found, [pairs(*row) for row in table])
            for row in found:
                self.assertEqual(sum(fractions(row)), 1)
            self.assertIsNone(check_chances(planes, chances))

    def test_several_steps(self):
        for planes, chances in CASES:
            if len(rooms(planes)) > 14:
                continue
            table = oracle_table(planes, chances)
            for k in (0, 1, 2, 10):
                due = [pairs(*row) for row in power_of(table, k)]
                self.assertEqual(steps_table(planes, chances, k), due)
                for at, room in enumerate(rooms(planes)):
                    self.assertEqual(after(planes, chances, room, k), due[at])

    def test_many_rooms(self):
        for planes, seed in ((LINES, 3), (SIXTY, 5), (SPACE, 4)):
            chances = random_chances(seed, planes, 12, 12)
            self.assertEqual(len(chances), 12)
            found = steps_table(planes, chances, 10)
            self.assertEqual(len(found), len(rooms(planes)))
            self.assertTrue(all(sum(fractions(row)) == 1 for row in found))
            table = oracle_table(planes, chances)
            row = [Fraction(k == 7) for k in range(len(table))]
            for _ in range(10):
                row = [dot(row, column) for column in zip(*table)]
            self.assertEqual(found[7], pairs(*row))
            self.assertEqual(after(planes, chances, rooms(planes)[7], 10), pairs(*row))

    def test_chances_and_tables_that_are_changed(self):
        chances = [("+", (1, 2)), ("-", (1, 4)), ("0", (1, 4))]
        kept = list(chances)
        for call, rest_of in ((step_table, ()), (steps_table, (3,)), (shares, ()), (steps_table, (0,))):
            before = call(LINE, chances, *rest_of)
            due = list(before)
            before.clear()
            self.assertEqual(call(LINE, chances, *rest_of), due)
        self.assertEqual(chances, kept)
        found = step_table(LINE, chances)
        chances[0] = ("+", (1, 1))
        chances.pop()
        self.assertEqual(found, [pairs("3/4", "1/4"), pairs("1/2", "1/2")])

    def test_no_planes(self):
        for n in (1, 4):
            planes = read_planes(str(n))
            chances = [("", (1, 1))]
            self.assertEqual(step_table(planes, chances), [((1, 1),)])
            self.assertEqual(steps_table(planes, chances, 10), [((1, 1),)])
            self.assertEqual(after(planes, chances, "", 0), ((1, 1),))
            self.assertEqual(shares(planes, chances), [((1, 1), 1)])
            self.assertEqual(share(planes, chances, ()), (1, 1))
            self.assertIs(reaches(planes, chances), True)
            self.assertEqual(rest(planes, chances), ((1, 1),))
            self.assertEqual(drawn(planes, chances), ((1, 1),))
            self.assertEqual(away(planes, chances, "", 0), (0, 1))
            self.assertEqual(away_bound(planes, chances, 0), (0, 1))
            self.assertIs(is_rest(planes, chances, ((1, 1),)), True)
            self.assertIs(is_rest(planes, chances, ((0, 1),)), False)


class TestShares(unittest.TestCase, Refusals):

    def test_shares_of_flats(self):
        for planes, chances in CASES:
            if len(rooms(planes)) > 24:
                continue
            told = Told(planes)
            often = {}
            for flat, much in told.weights().items():
                due = sum((x for face, x in numbers_of(chances) if all(face[at] == "0" for at in flat)), Fraction(0))
                self.assertEqual(share(planes, chances, flat), pair(due))
                often[due] = often.get(due, 0) + abs(much)
            self.assertEqual(shares(planes, chances), [(pair(x), often[x]) for x in sorted(often)])
            self.assertEqual(share(planes, chances, ()), (1, 1))
            self.rounds(planes, chances, often)

    def rounds(self, planes, chances, often):
        """The sums over the rooms, and the product that has only 0."""
        table = oracle_table(planes, chances)
        for k in (0, 1, 2, 3, 5):
            due = sum(much * x ** k for x, much in often.items())
            self.assertEqual(diagonal_sum(planes, chances, k), pair(due))
            if k < 3:
                self.assertEqual(sum(row[at] for at, row in enumerate(power_of(table, k))), due)
        self.assertEqual(diagonal_sum(planes, chances, 0), (len(table), 1))
        if len(table) <= 10:
            made = unit_table(len(table))
            for x in often:
                made = product_of(made, [[y - x * (i == j) for j, y in enumerate(row)] for i, row in enumerate(table)])
            self.assertFalse(any(any(row) for row in made))

    def test_ten_steps_of_many_rooms(self):
        chances = random_chances(4, SPACE, 12, 12)
        table = steps_table(SPACE, chances, 10)
        due = sum(fractions([row[at] for at, row in enumerate(table)]))
        self.assertEqual(diagonal_sum(SPACE, chances, 10), pair(due))

    def test_no_flats(self):
        chances = [("++-", (1, 1))]
        for flat in ((0, 1, 2), (3,), (-1,), (1, 0), (0, 0)):
            self.told(NotFlat, share, EXAMPLE, chances, flat)
        self.told(NotFlat, share, THROUGH, [("+++", (1, 1))], (0, 1))


class TestRests(unittest.TestCase, Refusals):

    def test_rests(self):
        seen = set()
        for planes, chances in CASES:
            table = oracle_table(planes, chances)
            due = reach_all(planes, chances)
            seen.add(due)
            self.assertIs(reaches(planes, chances), due)
            changes = [[x - (i == j) for j, x in enumerate(column)] for i, column in enumerate(zip(*table))]
            self.assertEqual(len(reduced(changes)) == len(table) - 1, due)
            if due:
                found = rest(planes, chances)
                row = fractions(found)
                self.assertEqual((type(found), sum(row), len(row)), (tuple, 1, len(table)))
                self.assertTrue(all(x >= 0 for x in row) and unchanged(table, row))
                self.assertIs(is_rest(planes, chances, found), True)
                if len(chances) <= 5:
                    self.assertEqual(row, drawn_in_orders(planes, chances))
                if len(chances) <= 7:
                    self.assertEqual(drawn(planes, chances), found)
            else:
                self.told(NoAnswer, rest, planes, chances)
                self.told(NoAnswer, drawn, planes, chances)
        self.assertEqual(seen, {True, False})

    def test_twelve_faces_and_many_rooms(self):
        for planes in (LINES, SIXTY, SPACE, BRAID):
            narrow = [face for face in faces(planes) if "0" in face]
            for pool in (faces(planes), narrow):
                chosen = Random(5).sample(pool, 12)
                chances = chances_of(chosen, [1, 2, 3, 4, 5, 7, 8, 9, 6, 1, 11, 3])
                self.assertTrue(reach_all(planes, chances))
                row = fractions(rest(planes, chances))
                self.assertTrue(sum(row) == 1 and unchanged(oracle_table(planes, chances), row) and min(row) >= 0)

    def test_chances_with_ugly_numbers(self):
        weights = [Fraction(k, p) for p in (31, 29, 23) for k in (3, 2)]
        weights += [Fraction(4, 3 * p) for p in (31, 29, 23)]
        weights += [Fraction(1, 3) - Fraction(5, p) - Fraction(4, 3 * p) for p in (31, 29, 23)]
        self.assertTrue(sum(weights) == 1 and max(x.denominator for x in weights) <= 100)
        for planes in (SPACE, BRAID):
            pool = [face for face in faces(planes) if face.count("0") >= 2]
            chances = list(zip(Random(6).sample(pool, 12), pairs(*weights)))
            row = fractions(rest(planes, chances))
            self.assertTrue(sum(row) == 1 and unchanged(oracle_table(planes, chances), row) and min(row) >= 0)

    def test_seven_faces_are_drawn(self):
        for planes in (THROUGH, EXAMPLE):
            chosen = Random(2).sample(faces(planes), 8)
            self.assertTrue(reach_all(planes, [(face, 0) for face in chosen]))
            seven = chances_of(chosen[:7], [1, 5, 2, 7, 3, 1, 4])
            self.assertEqual(drawn(planes, seven), pairs(*drawn_in_orders(planes, seven)))
            self.assertEqual(drawn(planes, seven), rest(planes, seven))
            self.told(TooLarge, drawn, planes, chances_of(chosen, [1, 5, 2, 7, 3, 1, 4, 2]))

    def test_no_answer_goes_ahead_of_too_large(self):
        # Nine faces with 0 at the first plane.
        chosen = [face for face in faces(BRAID) if face[0] == "0"][:9]
        self.told(NoAnswer, drawn, BRAID, chances_of(chosen, [1] * 9))
        self.told(NoAnswer, rest, BRAID, chances_of(chosen, [1] * 9))

    def test_each_of_several_rests(self):
        chances = [("0-", (2, 3)), ("00", (1, 3))]
        planes = read_planes("2 1,0,0 0,1,0")
        self.assertEqual(rooms(planes), ["++", "+-", "-+", "--"])
        self.assertIs(reaches(planes, chances), False)
        for good in (pairs(0, 1, 0, 0), pairs(0, 0, 0, 1), pairs(0, "1/3", 0, "2/3")):
            self.assertIs(is_rest(planes, chances, good), True)
        for bad in (pairs(1, 0, 0, 0), pairs(0, 2, 0, -1), pairs(0, 2, 0, 0), pairs(0, "1/2", 0, 0), pairs(0, 0, 0, 0),
                    pairs(0, "1/2", "1/4", "1/4"), pairs(0, -1, 0, 2)):
            self.assertIs(is_rest(planes, chances, bad), False)

    def test_tuples_that_are_no_rests(self):
        chances = [("+", (1, 2)), ("-", (1, 4)), ("0", (1, 4))]
        self.assertIs(is_rest(LINE, chances, pairs("2/3", "1/3")), True)
        for bad in (pairs("1/3", "2/3"), pairs(1, 0), pairs("4/3", "-1/3"), pairs("4/3", "2/3"), pairs(0, 0),
                    pairs("-2/3", "-1/3")):
            self.assertIs(is_rest(LINE, chances, bad), False)
        for bad in ((), pairs(1), pairs("2/3", "1/3", 0), ((2, 4),), ((2, 4),) * 3):
            self.told(BadNumber, is_rest, LINE, chances, bad)
        for x in NO_NUMBERS:
            self.told(NotNumber, is_rest, LINE, chances, ((-1, 1), x))
            self.told(NotNumber, is_rest, LINE, chances, (x, (5, 1)))

    def test_away(self):
        seen = set()
        for planes, chances in CASES:
            told = rooms(planes)
            if not reach_all(planes, chances):
                self.told(NoAnswer, away, planes, chances, told[0], 1)
                self.told(NoAnswer, away_bound, planes, chances, 1)
                continue
            table = oracle_table(planes, chances)
            end = fractions(rest(planes, chances))
            for k in (0, 1, 3, 10):
                bound = 2 * sum(sum((x for face, x in numbers_of(chances) if face[at] == "0"), Fraction(0)) ** k
                                for at in range(len(planes)))
                self.assertEqual(away_bound(planes, chances, k), pair(bound))
                for at in (0, len(told) - 1):
                    row = [Fraction(at == i) for i in range(len(told))]
                    for _ in range(k):
                        row = [dot(row, column) for column in zip(*table)]
                    due = sum(abs(x - y) for x, y in zip(row, end))
                    self.assertEqual(away(planes, chances, told[at], k), pair(due))
                    self.assertLessEqual(due, bound)
                    seen.add((k, due > 0))
        self.assertTrue({(0, True), (1, True), (3, True), (10, True)} <= seen)

    def test_example(self):
        chances = [("+", (1, 2)), ("-", (1, 4)), ("0", (1, 4))]
        self.assertEqual(rooms(LINE), ["+", "-"])
        self.assertEqual(step_table(LINE, chances), [pairs("3/4", "1/4"), pairs("1/2", "1/2")])
        self.assertEqual((share(LINE, chances, ()), share(LINE, chances, (0,))), pairs(1, "1/4"))
        self.assertEqual(shares(LINE, chances), [((1, 4), 1), ((1, 1), 1)])
        self.assertEqual(diagonal_sum(LINE, chances, 1), (5, 4))
        self.assertEqual(rest(LINE, chances), pairs("2/3", "1/3"))
        self.assertEqual(drawn(LINE, chances), pairs("2/3", "1/3"))


# Each function with chances, and what it takes behind them: none of it is right, so the chances must be told first.
CALLS = [(check_chances, ()), (step_table, ()), (steps_table, (11,)), (share, ((7,),)), (shares, ()),
         (diagonal_sum, (-1,)), (after, ("no", 11)), (reaches, ()), (rest, ()), (is_rest, (((2, 4),),)), (drawn, ()),
         (away, ("no", 11)), (away_bound, (11,))]


class TestErrors(unittest.TestCase, Refusals):

    def each(self, error, planes, chances):
        for call, rest_of in CALLS:
            self.told(error, call, planes, chances, *rest_of)

    def test_the_first_wrong_pair(self):
        good = ("++-", (1, 1))
        for row in ("", "++", "++-+", "++x", "+ -", "++1"):
            self.each(NotRow, EXAMPLE, [good, (row, (2, 4)), ("--+", (1, 2))])
        for row in ("--+", "000", "00+"):
            self.each(NoAnswer, EXAMPLE, [good, (row, (2, 4)), ("++", (1, 2))])
        for x in NO_NUMBERS:
            self.each(NotNumber, EXAMPLE, [good, ("+++", x), ("++", (1, 2)), ("--+", (1, 2))])

    def test_the_list_of_pairs(self):
        every = faces(EXAMPLE)
        self.each(BadNumber, EXAMPLE, [])
        self.each(BadNumber, EXAMPLE, chances_of(every[:13], [1] * 13))
        self.each(BadNumber, EXAMPLE, [("++-", (1, 2)), ("+++", (1, 4)), ("++-", (1, 4))])
        self.each(BadNumber, EXAMPLE, [("++-", (1, 1)), ("+++", (0, 1))])
        self.each(BadNumber, EXAMPLE, [("++-", (3, 2)), ("+++", (-1, 2))])
        for numbers in (pairs("1/2", "1/3"), pairs("1/2", "2/3"), pairs(1, 1), pairs(BIG, 1)):
            self.each(BadNumber, EXAMPLE, list(zip(("++-", "+++"), numbers)))
        # What is wrong with a pair goes ahead of what is wrong with the list.
        self.each(NotRow, EXAMPLE, chances_of(every[:12] + ["++"], [1] * 13))
        self.each(NotNumber, EXAMPLE, [("++-", (1, 1)), ("++-", (2, 2))])

    def test_twelve_pairs(self):
        chances = chances_of(faces(EXAMPLE)[:12], [1] * 12)
        self.assertIsNone(check_chances(EXAMPLE, chances))
        self.assertEqual(len(step_table(EXAMPLE, chances)), 7)

    def test_large_integers(self):
        self.each(BadNumber, EXAMPLE, list(zip(("++-", "+++"), pairs("1/101", "100/101"))))
        self.each(BadNumber, MORE, list(zip(rooms(MORE), pairs("1/101", "100/101"))))
        self.assertIsNone(check_chances(EXAMPLE, list(zip(("++-", "+++"), pairs("1/100", "99/100")))))

    def test_many_rooms(self):
        self.assertEqual((len(rooms(SIXTY)), len(rooms(MORE))), (60, 61))
        self.each(TooLarge, MORE, [(rooms(MORE)[0], (1, 1))])
        self.assertIsNone(check_chances(SIXTY, [(rooms(SIXTY)[0], (1, 1))]))
        self.each(BadNumber, MORE, [(rooms(MORE)[0], (1, 2))])

    def test_numbers_of_steps(self):
        good = [("++-", (1, 2)), ("000"[:2] + "-", (1, 2))]
        for k in (-1, 11, BIG, -BIG):
            self.told(BadNumber, steps_table, EXAMPLE, good, k)
            self.told(BadNumber, diagonal_sum, EXAMPLE, good, k)
            self.told(BadNumber, after, EXAMPLE, good, "++-", k)
            self.told(BadNumber, away, EXAMPLE, good, "++-", k)
            self.told(BadNumber, away_bound, EXAMPLE, good, k)
            # The chances do not reach the first plane: that comes behind the number of steps.
            self.told(BadNumber, away, EXAMPLE, [("0+-", (1, 1))], "++-", k)
            self.told(BadNumber, away_bound, EXAMPLE, [("0+-", (1, 1))], k)

    def test_rooms_and_steps(self):
        for call in (after, away):
            for chances in ([("++-", (1, 1))], [("0+-", (1, 1))]):
                for row in ("", "++", "++-+", "+++x"):
                    self.told(NotRow, call, EXAMPLE, chances, row, 11)
                for row in ("--+", "0+-", "000"):
                    self.told(NoAnswer, call, EXAMPLE, chances, row, 11)


if __name__ == "__main__":
    unittest.main()

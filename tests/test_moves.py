"""[23] to [26]: stretches, crossings, moves, joined lists and cones."""

import unittest
from fractions import Fraction
from random import Random

from planeworth.errors import BadNumber, NotMatrix, NotNumber, NotPoint, TooLarge
from planeworth.moves import Move, coned, crossings, joined, on_stretch
from planeworth.planes import Planes
from planeworth.texts import read_planes
from tests.helpers import BIG, EXAMPLE, NO_NUMBERS, SMALL_LISTS, Refusals, dot, pair, pairs, random_planes, row_at

LISTS = SMALL_LISTS + [random_planes(k, n, 6, 4) for k, n in enumerate((1, 2, 3, 4))]
WRONG_LETTERS = (0, 5, -1)


def random_point(draw, n, most=3):
    return [Fraction(draw.randint(-most, most), draw.randint(1, 3)) for _ in range(n)]


class TestStretch(unittest.TestCase, Refusals):

    def test_points_of_the_stretch(self):
        draw = Random(1)
        for n in range(1, 5):
            for t in (0, 1, Fraction(1, 2), Fraction(2, 7), Fraction(1, BIG)):
                u, v = random_point(draw, n), random_point(draw, n)
                want = [x + t * (y - x) for x, y in zip(u, v)]
                self.assertEqual(on_stretch(n, pairs(*u), pairs(*v), pair(t)), pairs(*want))
                self.assertEqual(on_stretch(n, pairs(*u), pairs(*u), pair(t)), pairs(*u))

    def test_t_that_is_not_allowed(self):
        point = pairs(1, 2)
        for t in (-1, 2, Fraction(-1, BIG), Fraction(BIG + 1, BIG), BIG, -BIG):
            self.told(BadNumber, on_stretch, 2, point, point, pair(t))
        for t in NO_NUMBERS:
            self.told(NotNumber, on_stretch, 2, point, point, t)

    def test_order_of_errors(self):
        good, short, wrong = pairs(1, 2), pairs(1), ((1, 1), (2, 4))
        for n in WRONG_LETTERS:
            self.told(BadNumber, on_stretch, n, short, short, (2, 4))
        for point in (short, wrong, pairs(1, 2, 3)):
            self.told(NotPoint, on_stretch, 2, point, good, (2, 4))
            self.told(NotPoint, on_stretch, 2, good, point, (2, 4))
            self.told(NotPoint, on_stretch, 2, good, point, (2, 1))

    def test_crossings_as_told(self):
        draw = Random(2)
        for planes in LISTS:
            for _ in range(15):
                u, v = random_point(draw, planes.n), random_point(draw, planes.n)
                one, other = row_at(planes, u), row_at(planes, v)
                told = crossings(planes, pairs(*u), pairs(*v))
                self.assertIsInstance(told, list)
                found = [(Fraction(*t), at) for t, at in told]
                self.assertEqual([pair(t) for t, _ in found], [t for t, _ in told])
                self.assertEqual(found, sorted(found))
                self.assertEqual(sorted(at for _, at in found),
                                 [k for k in range(len(planes)) if {one[k], other[k]} == {"+", "-"}])
                for t, at in found:
                    self.assertTrue(0 < t < 1)
                self.check_rows_between(planes, u, v, dict((at, t) for t, at in found))

    def check_rows_between(self, planes, u, v, crossed):
        """At each t the row that [23] tells."""
        one, other = row_at(planes, u), row_at(planes, v)
        times = sorted(set(crossed.values()) | {Fraction(k, 6) for k in range(1, 6)})
        times += [(a + b) / 2 for a, b in zip(times, times[1:])]
        for t in times:
            row = row_at(planes, [x + t * (y - x) for x, y in zip(u, v)])
            for k in range(len(planes)):
                if k in crossed:
                    want = "0" if t == crossed[k] else one[k] if t < crossed[k] else other[k]
                else:
                    want = other[k] if one[k] == "0" else one[k]
                self.assertEqual(row[k], want)

    def test_several_at_one_t(self):
        planes = read_planes("2 1,0,0 0,1,1 1,1,0 1,-1,0 3,1,0")
        told = crossings(planes, pairs(-1, "-1/2"), pairs(1, "1/2"))
        self.assertEqual(told, [((1, 2), 0), ((1, 2), 2), ((1, 2), 3), ((1, 2), 4)])
        told = crossings(planes, pairs(-1, 3), pairs(3, -1))
        self.assertEqual(told, [((1, 4), 0), ((1, 2), 1), ((1, 2), 3)])

    def test_none(self):
        self.assertEqual(crossings(EXAMPLE, pairs(1, 1), pairs(1, 1)), [])
        self.assertEqual(crossings(EXAMPLE, pairs(1, 1), pairs(5, 7)), [])
        self.assertEqual(crossings(EXAMPLE, pairs(0, 2), pairs(0, 3)), [])
        self.assertEqual(crossings(EXAMPLE, pairs(0, 2), pairs(7, 2)), [])
        self.assertEqual(crossings(Planes(2, []), pairs(0, 2), pairs(7, 2)), [])

    def test_example(self):
        self.assertEqual(crossings(EXAMPLE, pairs("1/2", "1/3"), pairs("1/2", "-2/3")), [((1, 3), 1)])

    def test_errors_of_crossings(self):
        for point in [pairs(1), pairs(1, 2, 3), ()] + [((1, 1), x) for x in NO_NUMBERS]:
            self.told(NotPoint, crossings, EXAMPLE, point, pairs(1, 2))
            self.told(NotPoint, crossings, EXAMPLE, pairs(1, 2), point)


def random_move(draw, n):
    """A move with small integers, and with fractions in its shift."""
    while True:
        rows = [pairs(*[draw.randint(-2, 2) for _ in range(n)]) for _ in range(n)]
        try:
            return Move(n, rows, pairs(*random_point(draw, n)))
        except NotMatrix:
            pass


class TestMove(unittest.TestCase, Refusals):

    def test_rows_shift_and_equality(self):
        rows, shift = [pairs(0, "1/2"), pairs(1, 3)], pairs(1, 0)
        move = Move(2, rows, shift)
        self.assertEqual((move.n, move.rows(), move.shift()), (2, rows, shift))
        self.assertTrue(move == Move(2, list(rows), shift))
        self.assertFalse(move != Move(2, list(rows), shift))
        self.assertFalse(move == Move(2, rows[::-1], shift))
        self.assertFalse(move == Move(2, rows, pairs(1, 1)))
        self.assertFalse(Move(1, [pairs(1)], pairs(0)) == Move(2, [pairs(1, 0), pairs(0, 1)], pairs(0, 0)))
        self.assertFalse(move == rows)

    def test_nothing_is_shared(self):
        rows = [pairs(0, 1), pairs(1, 0)]
        move = Move(2, rows, pairs(0, 0))
        rows[0] = pairs(5, 5)
        move.rows()[1] = pairs(7, 7)
        self.assertEqual(move.rows(), [pairs(0, 1), pairs(1, 0)])
        planes = move.planes(EXAMPLE)
        self.assertEqual(EXAMPLE.planes(), [(1, 0, 0), (0, 1, 0), (1, 1, 1)])
        planes.planes().clear()
        self.assertEqual(len(move.planes(EXAMPLE)), 3)

    def test_points(self):
        draw = Random(3)
        for n in range(1, 5):
            for _ in range(10):
                move = random_move(draw, n)
                point = random_point(draw, n)
                rows = [[Fraction(*x) for x in row] for row in move.rows()]
                want = [dot(row, point) + Fraction(*x) for row, x in zip(rows, move.shift())]
                self.assertEqual(move.point(pairs(*point)), pairs(*want))

    def test_rows_of_points_and_planes_that_are_led(self):
        draw = Random(4)
        led = 0
        for planes in LISTS:
            for _ in range(6):
                move = random_move(draw, planes.n)
                try:
                    there = move.planes(planes)
                except TooLarge:
                    continue
                led += 1
                self.assertIsInstance(there, Planes)
                self.assertEqual((there.n, len(there)), (planes.n, len(planes)))
                for _ in range(8):
                    point = random_point(draw, planes.n)
                    image = [Fraction(*x) for x in move.point(pairs(*point))]
                    self.assertEqual(row_at(there, image), row_at(planes, point))
                self.assertEqual(move.undone().planes(there), planes)
        self.assertGreater(led, 100)

    def test_undone_and_behind(self):
        draw = Random(5)
        for n in range(1, 5):
            calm = Move(n, [pairs(*[int(k == j) for j in range(n)]) for k in range(n)], pairs(*[0] * n))
            for _ in range(6):
                one, two, three = (random_move(draw, n) for _ in range(3))
                point = pairs(*random_point(draw, n))
                self.assertEqual(one.undone().point(one.point(point)), point)
                self.assertEqual(one.point(one.undone().point(point)), point)
                self.assertEqual(one.undone().behind(one), calm)
                self.assertEqual(one.behind(one.undone()), calm)
                self.assertEqual(one.undone().undone(), one)
                self.assertEqual(one.behind(two).point(point), one.point(two.point(point)))
                self.assertEqual(one.behind(two).behind(three), one.behind(two.behind(three)))
                self.assertEqual(one.behind(calm), one)
                self.assertEqual(calm.behind(one), one)

    def test_order_is_not_free(self):
        one = Move(1, [pairs(2)], pairs(0))
        two = Move(1, [pairs(1)], pairs(3))
        self.assertEqual(one.behind(two), Move(1, [pairs(2)], pairs(6)))
        self.assertEqual(two.behind(one), Move(1, [pairs(2)], pairs(3)))

    def test_a_turn_of_the_line_keeps_before_and_behind(self):
        move = Move(1, [pairs(-1)], pairs(0))
        self.assertEqual(move.planes(Planes(1, [(1, 3)])).planes(), [(-1, 3)])

    def test_example(self):
        move = Move(2, [pairs(0, 1), pairs(1, 0)], pairs(1, 0))
        self.assertEqual(move.point(pairs("1/2", "1/3")), pairs("4/3", "1/2"))
        self.assertEqual(move.planes(EXAMPLE).planes(), [(0, 1, 0), (1, 0, 1), (1, 1, 2)])

    def test_errors_when_made(self):
        good = [pairs(1, 0), pairs(0, 1)]
        for n in WRONG_LETTERS:
            self.told(BadNumber, Move, n, [], ())
            self.told(BadNumber, Move, n, [pairs(1)], pairs(0))
        wrong = [[], [pairs(1, 0)], good + [pairs(0, 0)], [pairs(1), pairs(0)], [pairs(1, 0, 0), pairs(0, 1, 0)],
                 [pairs(1, 2), pairs(2, 4)], [pairs(0, 0), pairs(0, 0)], [pairs(1, 0), ((2, 4), (1, 1))]]
        for rows in wrong:
            self.told(NotMatrix, Move, 2, rows, pairs(0, 0))
            self.told(NotMatrix, Move, 2, rows, pairs(0))
        for shift in [(), pairs(1), pairs(1, 2, 3), [(1, 1), (2, 1)]] + [((1, 1), x) for x in NO_NUMBERS]:
            self.told(NotPoint, Move, 2, good, shift)

    def test_errors_of_methods(self):
        move = Move(2, [pairs(1, 0), pairs(0, 1)], pairs(0, 0))
        for point in [pairs(1), pairs(1, 2, 3), ()] + [((1, 1), x) for x in NO_NUMBERS]:
            self.told(NotPoint, move.point, point)
        self.told(BadNumber, move.planes, Planes(1, []))
        self.told(BadNumber, move.planes, Planes(3, [(1, 0, 0, 0)]))
        self.told(BadNumber, move.behind, Move(1, [pairs(1)], pairs(0)))

    def test_integers_beyond_1000(self):
        for much, error in ((999, False), (1000, False), (1001, True), (BIG, True)):
            shifted = Move(1, [pairs(1)], pairs(much))
            for sign in (1, -1):
                planes = Planes(1, [(sign, 0)])
                if error:
                    self.told(TooLarge, shifted.planes, planes)
                else:
                    self.assertEqual(shifted.planes(planes).planes(), [(sign, sign * much)])
            shrinking = Move(1, [pairs(Fraction(1, much))], pairs(0))
            if error:
                self.told(TooLarge, shrinking.planes, Planes(1, [(1, 1)]))
            else:
                self.assertEqual(shrinking.planes(Planes(1, [(1, 1)])).planes(), [(much, 1)])
        self.assertEqual(Move(1, [pairs(1)], pairs(5)).planes(Planes(1, [(1, 995), (1, -1000)])).planes(),
                         [(1, 1000), (1, -995)])
        self.assertEqual(len(Move(1, [pairs(1)], pairs(BIG)).planes(Planes(1, []))), 0)
        self.told(BadNumber, Move(1, [pairs(1)], pairs(BIG)).planes, Planes(2, [(1, 0, 0)]))


class TestJoinedAndConed(unittest.TestCase, Refusals):

    def test_coned(self):
        draw = Random(6)
        for planes in LISTS:
            if planes.n == 4:
                continue
            cone = coned(planes)
            n = planes.n
            self.assertEqual(cone.n, n + 1)
            self.assertEqual(cone.planes(), [plane[:n] + (-plane[n], 0) for plane in planes.planes()]
                             + [(0,) * n + (1, 0)])
            self.assertEqual(row_at(cone, [0] * (n + 1)), "0" * len(cone))
            self.assertTrue(cone.is_central())
            for t in (1, Fraction(1, 3), 7):
                point = random_point(draw, n)
                row = row_at(planes, point) + "+"
                self.assertEqual(row_at(cone, [t * x for x in point] + [t]), row)
                other = {"+": "-", "-": "+", "0": "0"}
                self.assertEqual(row_at(cone, [-t * x for x in point] + [-t]), "".join(other[c] for c in row))

    def test_example(self):
        self.assertEqual(coned(EXAMPLE).planes(), [(1, 0, 0, 0), (0, 1, 0, 0), (1, 1, -1, 0), (0, 0, 1, 0)])

    def test_errors_of_coned(self):
        twelve = [(k, 1, 0, 0) for k in range(12)]
        self.told(TooLarge, coned, Planes(3, twelve))
        self.assertEqual(len(coned(Planes(3, twelve[:11]))), 12)
        self.told(BadNumber, coned, Planes(4, []))
        self.told(BadNumber, coned, Planes(4, [(k, 1, 0, 0, 0) for k in range(12)]))

    def test_joined(self):
        draw = Random(7)
        for one in LISTS:
            for other in LISTS:
                if one.n + other.n > 4:
                    self.told(BadNumber, joined, one, other)
                    continue
                both = joined(one, other)
                n, m = one.n, other.n
                self.assertEqual(both.n, n + m)
                self.assertEqual(both.planes(), [plane[:n] + (0,) * m + plane[n:] for plane in one.planes()]
                                 + [(0,) * n + plane for plane in other.planes()])
                u, v = random_point(draw, n), random_point(draw, m)
                self.assertEqual(row_at(both, u + v), row_at(one, u) + row_at(other, v))

    def test_errors_of_joined(self):
        six, seven = Planes(2, [(1, k, 0) for k in range(6)]), Planes(2, [(1, k, 0) for k in range(7)])
        self.assertEqual(len(joined(six, six)), 12)
        self.told(TooLarge, joined, six, seven)
        self.told(TooLarge, joined, seven, six)
        many = Planes(3, [(1, k, 0, 0) for k in range(12)])
        self.told(BadNumber, joined, many, seven)
        self.told(BadNumber, joined, seven, many)
        self.assertEqual(len(joined(many, Planes(1, []))), 12)
        self.told(TooLarge, joined, many, Planes(1, [(1, 0)]))


if __name__ == "__main__":
    unittest.main()

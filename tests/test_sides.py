"""[40] to [48]: rows that are shown, rows that are refused, ties."""

import unittest
from fractions import Fraction
from itertools import combinations
from math import gcd
from random import Random

from planeworth.errors import BadNumber, NoAnswer, NotNumber, NotPoint, NotRow
from planeworth.planes import Planes
from planeworth.sides import (decide_row, is_shown, point_of, refusal, refused_part, refuses, refusing_ties, shows,
                              ties)
from planeworth.texts import read_planes
from tests.helpers import (EXAMPLE, NO_NUMBERS, SMALL_LISTS, Refusals, all_rows, combination_refuses, dot, figures,
                           pairs, point_shows, random_planes, reduced, row_at)

LISTS = SMALL_LISTS + [random_planes(20 + n, n, 5, 5) for n in (1, 2, 3, 4)] + [random_planes(30, 3, 4, 1000)]
TWELVE = [random_planes(40, 4, 12, 1000), random_planes(41, 4, 12, 2)]


def decided(planes):
    """Whether each row is shown, as its own point or combination tells."""
    return {row: decide_row(planes, row)[0] == "shown" for row in all_rows(len(planes))}


def independent(rows):
    return len(reduced(rows)) == len(rows)


class TestDecideRow(unittest.TestCase, Refusals):

    def check(self, planes, row):
        """Exactly one of both, looked at by [40] or [41]."""
        told = decide_row(planes, row)
        self.assertIsInstance(told, tuple)
        word, thing = told
        self.assertIsInstance(thing, tuple)
        self.assertLessEqual(figures(thing), 400)
        if word == "shown":
            self.assertTrue(point_shows(planes, row, thing), (planes.planes(), row))
            self.assertIs(shows(planes, row, thing), True)
            self.assertIs(is_shown(planes, row), True)
            self.assertTrue(point_shows(planes, row, point_of(planes, row)))
            self.told(NoAnswer, refusal, planes, row)
        else:
            self.assertEqual(word, "refused")
            self.assertTrue(combination_refuses(planes, row, thing), (planes.planes(), row))
            self.assertIs(refuses(planes, row, thing), True)
            self.assertIs(is_shown(planes, row), False)
            self.assertTrue(combination_refuses(planes, row, refusal(planes, row)))
            self.told(NoAnswer, point_of, planes, row)
        return word

    def test_each_row_of_each_list(self):
        for planes in LISTS:
            words = [self.check(planes, row) for row in all_rows(len(planes))]
            self.assertIn("shown", words)

    def test_twelve_planes_for_four_letters(self):
        draw = Random(8)
        for planes in TWELVE:
            words = []
            for _ in range(25):
                point = [Fraction(draw.randint(-3, 3), draw.randint(1, 3)) for _ in range(4)]
                words.append(self.check(planes, row_at(planes, point)))
                words.append(self.check(planes, "".join(draw.choice("+-0") for _ in range(12))))
            self.assertGreaterEqual(words.count("shown"), 25)
            self.assertGreater(words.count("refused"), 5)

    def test_points_show_what_is_shown(self):
        draw = Random(9)
        for planes in LISTS:
            for _ in range(20):
                point = [Fraction(draw.randint(-4, 4), draw.randint(1, 3)) for _ in range(planes.n)]
                self.assertIs(is_shown(planes, row_at(planes, point)), True)

    def test_no_planes(self):
        planes = Planes(3, [])
        self.assertEqual(decide_row(planes, "")[0], "shown")
        self.assertIs(shows(planes, "", pairs(1, 2, 3)), True)
        self.assertIs(refuses(planes, "", ()), False)

    def test_example_of_one_letter(self):
        planes = read_planes("1 1,0 1,1")
        for row, x in (("--", -1), ("0-", 0), ("+-", "1/2"), ("+0", 1), ("++", 2)):
            self.assertIs(is_shown(planes, row), True)
            self.assertIs(shows(planes, row, pairs(x)), True)
        for row in ("-+", "0+", "-0", "00"):
            self.assertIs(is_shown(planes, row), False)
            self.assertIs(refuses(planes, row, pairs(-1, 1)), True)
            self.assertIs(refuses(planes, row, pairs(1, -1)), False)
            self.assertEqual(refusing_ties(planes, row), [((0, 1), (-1, 1))])
        self.assertEqual(ties(planes), [((0, 1), (1, -1))])

    def test_example_of_two_letters(self):
        self.assertEqual(ties(EXAMPLE), [((0, 1, 2), (1, 1, -1))])
        refused = [row for row in all_rows(3) if not is_shown(EXAMPLE, row)]
        self.assertEqual(refused, [a + b + c for a in "-0" for b in "-0" for c in "+0"])
        for row in refused:
            self.assertEqual(refusing_ties(EXAMPLE, row), [((0, 1, 2), (-1, -1, 1))])

    def test_not_row(self):
        for row in ("", "++", "++++", "++x", "+ -", "0", "00", "0000", "00x"):
            for call in (decide_row, is_shown, point_of, refusal, refusing_ties, refused_part):
                self.told(NotRow, call, EXAMPLE, row)


class TestShowsAndRefuses(unittest.TestCase, Refusals):

    def test_against_the_words_of_the_document(self):
        draw = Random(10)
        for planes in LISTS:
            rows = all_rows(len(planes))
            for _ in range(40):
                row = draw.choice(rows)
                point = pairs(*[Fraction(draw.randint(-3, 3), draw.randint(1, 2)) for _ in range(planes.n)])
                self.assertIs(shows(planes, row, point), point_shows(planes, row, point))
                ys = pairs(*[Fraction(draw.randint(-2, 2), draw.randint(1, 2)) for _ in planes.planes()])
                self.assertIs(refuses(planes, row, ys), combination_refuses(planes, row, ys))

    def test_combinations_made_of_ties(self):
        """Sums of ties' factors add up to 0 for the letters, so that the other conditions decide."""
        draw = Random(11)
        seen = []
        for planes in LISTS:
            told = ties(planes)
            if not told:
                continue
            for row in draw.sample(all_rows(len(planes)), min(60, 3 ** len(planes))):
                ys = [Fraction(0)] * len(planes)
                for indexes, factors in draw.sample(told, min(2, len(told))):
                    much = Fraction(draw.choice((-1, 1, 2)), draw.choice((1, 3)))
                    for at, a in zip(indexes, factors):
                        ys[at] += much * a
                want = combination_refuses(planes, row, pairs(*ys))
                self.assertIs(refuses(planes, row, pairs(*ys)), want)
                seen.append(want)
        self.assertGreater(seen.count(True), 30)
        self.assertGreater(seen.count(False), 30)

    def test_each_condition(self):
        planes = read_planes("1 1,0 1,1")
        self.assertIs(refuses(planes, "00", pairs(-2, 2)), True)
        self.assertIs(refuses(planes, "00", pairs(2, -2)), False)
        self.assertIs(refuses(planes, "00", pairs(0, 0)), False)
        self.assertIs(refuses(planes, "-+", pairs("-1/2", "1/2")), True)
        self.assertIs(refuses(planes, "++", pairs(-1, 1)), False)
        self.assertIs(refuses(planes, "--", pairs(-1, 1)), False)
        self.assertIs(refuses(planes, "-+", pairs(-1, 2)), False)
        through = read_planes("2 1,0,0 0,1,0 1,1,0")
        self.assertIs(refuses(through, "++-", pairs(1, 1, -1)), True)
        self.assertIs(refuses(through, "--+", pairs(-1, -1, 1)), True)
        self.assertIs(refuses(through, "--+", pairs(1, 1, -1)), False)
        self.assertIs(refuses(through, "00+", pairs(-1, -1, 1)), True)
        self.assertIs(refuses(through, "000", pairs(-1, -1, 1)), False)
        self.assertIs(refuses(through, "+0-", pairs(1, 1, -1)), True)
        self.assertIs(refuses(through, "++0", pairs(1, 1, -1)), True)
        self.assertIs(refuses(through, "+-0", pairs(1, 1, -1)), False)

    def test_order_of_errors(self):
        wrong = (2, 4)
        for row in ("", "++", "++++", "++x"):
            self.told(NotRow, shows, EXAMPLE, row, (wrong,))
            self.told(NotRow, refuses, EXAMPLE, row, (wrong,))
        for point in [pairs(1), pairs(1, 2, 3), ()] + [((1, 1), x) for x in NO_NUMBERS]:
            self.told(NotPoint, shows, EXAMPLE, "+++", point)
        for ys in ((), (wrong,), (wrong,) * 4, pairs(0, 0), pairs(0, 0, 0, 0)):
            self.told(BadNumber, refuses, EXAMPLE, "+++", ys)
        for x in NO_NUMBERS:
            self.told(NotNumber, refuses, EXAMPLE, "+++", ((0, 1), (0, 1), x))
            self.told(NotNumber, refuses, EXAMPLE, "+++", (x, (0, 1), (0, 1)))


class TestTies(unittest.TestCase, Refusals):

    def test_they_are_the_ties_in_order(self):
        for planes in LISTS + TWELVE[1:]:
            rows = [row[:-1] for row in planes.planes()]
            want = []
            for size in range(2, planes.n + 2):
                for indexes in combinations(range(len(rows)), size):
                    part = [rows[k] for k in indexes]
                    if not independent(part) and all(independent(part[:k] + part[k + 1:]) for k in range(size)):
                        want.append(indexes)
            told = ties(planes)
            self.assertIsInstance(told, list)
            self.assertEqual([indexes for indexes, _ in told], want)
            for indexes, factors in told:
                self.assertIsInstance(factors, tuple)
                self.assertEqual(len(factors), len(indexes))
                self.assertGreater(factors[0], 0)
                self.assertEqual(gcd(*factors), 1)
                self.assertNotIn(0, factors)
                for k in range(planes.n):
                    self.assertEqual(dot(factors, [rows[at][k] for at in indexes]), 0)

    def test_a_row_is_refused_exactly_by_a_tie(self):
        for planes in LISTS:
            told = ties(planes)
            shown = decided(planes)
            for row in all_rows(len(planes)):
                want = []
                for indexes, factors in told:
                    for sign in (1, -1):
                        ys = [0] * len(planes)
                        for at, a in zip(indexes, factors):
                            ys[at] = sign * a
                        if combination_refuses(planes, row, pairs(*ys)):
                            want.append((indexes, tuple(sign * a for a in factors)))
                self.assertEqual(refusing_ties(planes, row), want)
                self.assertEqual(shown[row], want == [])

    def test_which_sign_refuses(self):
        through = read_planes("2 1,0,0 0,1,0 1,1,0")
        self.assertEqual(refusing_ties(through, "++-"), [((0, 1, 2), (1, 1, -1))])
        planes = read_planes("2 1,0,0 1,0,1 0,1,0")
        self.assertEqual(refusing_ties(planes, "-+0"), [((0, 1), (-1, 1))])
        # With a sum for b of 0, both signs would need 0 at the whole tie: then neither refuses.
        both = [(planes, row) for planes in LISTS for row in all_rows(len(planes))
                if len({indexes for indexes, _ in refusing_ties(planes, row)}) < len(refusing_ties(planes, row))]
        self.assertEqual(both, [])

    def test_a_returned_list_may_be_changed(self):
        told = ties(EXAMPLE)
        told.clear()
        self.assertEqual(len(ties(EXAMPLE)), 1)
        refusing_ties(EXAMPLE, "--+").clear()
        self.assertEqual(len(refusing_ties(EXAMPLE, "--+")), 1)


class TestParts(unittest.TestCase, Refusals):

    def test_the_first_part_that_is_not_shown(self):
        for planes in LISTS:
            shown = decided(planes)
            parts = [indexes for size in range(len(planes) + 1)
                     for indexes in combinations(range(len(planes)), size)]
            small = {indexes: decided(planes.only(indexes)) for indexes in parts if len(indexes) <= planes.n + 1}
            for row in all_rows(len(planes)):
                if shown[row]:
                    self.told(NoAnswer, refused_part, planes, row)
                    self.assertTrue(all(told["".join(row[k] for k in part)] for part, told in small.items()))
                else:
                    want = next(part for part in parts if not small[part]["".join(row[k] for k in part)])
                    self.assertEqual(refused_part(planes, row), want)

    def test_a_plane_taken_the_other_way_round(self):
        turn = {"+": "-", "-": "+", "0": "0"}
        for planes in LISTS[:14]:
            shown = decided(planes)
            for at in range(len(planes)):
                other = decided(planes.turned(at))
                for row in shown:
                    self.assertEqual(other[row[:at] + turn[row[at]] + row[at + 1:]], shown[row])

    def test_a_plane_left_out(self):
        for planes in LISTS[:14]:
            shown = decided(planes)
            for at in range(len(planes)):
                for row, is_there in decided(planes.without(at)).items():
                    many = sum(shown[row[:at] + c + row[at:]] for c in "+-0")
                    self.assertIn(many, (1, 3) if is_there else (0,))


if __name__ == "__main__":
    unittest.main()

"""[262], [265], [266]: papers for all rows, and the figure that cannot be drawn."""

import unittest
from itertools import combinations, permutations
from random import Random

from planeworth.certificates import comparisons_cancel, faces_told, refuses_row, shows_row, tells_all
from planeworth.determinants import exchange_fault, signs_of
from planeworth.errors import TooLarge
from planeworth.papers import row_papers, swapped_signs
from planeworth.planes import Planes
from planeworth.rooms import faces
from planeworth.sides import is_shown
from planeworth.texts import read_planes
from tests.helpers import (ORIGIN_LISTS, SMALL_LISTS, Refusals, determinant_by_orders, origin_planes, random_planes)
from tests.test_certificates import kind_of

LISTS = SMALL_LISTS + ORIGIN_LISTS[9:] + [
    random_planes(2, 2, 6, 3), random_planes(3, 2, 7, 4), random_planes(4, 3, 7, 2), random_planes(5, 4, 7, 9),
    origin_planes(3, 3, 7, 2), read_planes("1 1,0 1,1 1,2 1,3 2,1 2,3 2,5"),
    read_planes("4 0,0,1,0,0 0,0,1,0,1 0,0,1,0,2 0,0,2,0,1 0,0,2,0,3 0,0,3,0,1 0,0,3,0,2"),
]


class TestRowPapers(unittest.TestCase, Refusals):

    def test_all_rows_are_told(self):
        many = set()
        for planes in LISTS:
            n, rows = planes.n, planes.planes()
            many.add(len(rows))
            papers = row_papers(planes)
            self.assertIs(tells_all(n, rows, papers), True)
            self.assertEqual(faces_told(n, rows, papers), faces(planes))
            for head, (word, told) in papers:
                check = shows_row if word == "shown" else refuses_row
                self.assertIs(check(n, rows[:len(head)], head, told), True)
                self.assertTrue(word == "refused" or len(head) == len(rows))
            shown = [head for head, (word, _) in papers if word == "shown"]
            self.assertEqual(shown, faces(planes))
            papers.clear()
            self.assertIs(tells_all(n, rows, row_papers(planes)), True)
        self.assertEqual(many, set(range(8)))

    def test_heads(self):
        for planes in LISTS:
            heads = [head for head, _ in row_papers(planes)]
            self.assertEqual(heads, sorted(heads))
            self.assertEqual(len(set(heads)), len(heads))
            # In ascending order a head would stand right behind its beginning.
            self.assertFalse(any(other.startswith(head) for head, other in zip(heads, heads[1:])))
            parts = [planes.only(tuple(range(k))) for k in range(len(planes) + 1)]
            tried = {}
            for head, (word, _) in row_papers(planes):
                if word == "refused":
                    self.assertFalse(is_shown(parts[len(head)], head))
                for k in range(len(head)):
                    if head[:k] not in tried:
                        tried[head[:k]] = is_shown(parts[k], head[:k])
                    self.assertTrue(tried[head[:k]])

    def test_one_more_paper_and_one_less(self):
        draw = Random(9)
        for planes in LISTS:
            n, rows = planes.n, planes.planes()
            papers = row_papers(planes)
            more = [paper for paper in papers if paper[1][0] == "refused" and len(paper[0]) < len(rows)][:1]
            longer = [(head + "+", (word, told + ((0, 1),))) for head, (word, told) in more] + papers[:1]
            mixed = papers + longer
            draw.shuffle(mixed)
            self.assertIs(tells_all(n, rows, mixed), True)
            at = draw.randrange(len(papers))
            self.assertIs(tells_all(n, rows, papers[:at] + papers[at + 1:]), False)

    def test_other_planes(self):
        # The papers of a list tell nothing of the list turned at a plane, unless that has the same rows.
        one = read_planes("2 1,0,0 0,1,0 1,1,1")
        self.assertIs(tells_all(2, one.turned(0).planes(), row_papers(one)), False)
        self.assertIs(tells_all(2, one.planes()[:2], row_papers(one)), False)
        self.assertIs(tells_all(2, one.planes() + [(1, -1, 0)], row_papers(one)), False)

    def test_no_planes(self):
        for n in (1, 2, 3, 4):
            papers = row_papers(Planes(n, []))
            self.assertEqual(len(papers), 1)
            head, (word, point) = papers[0]
            self.assertEqual((head, word, len(point)), ("", "shown", n))
            self.assertIs(tells_all(n, [], papers), True)

    def test_eight_planes(self):
        self.told(TooLarge, row_papers, random_planes(1, 2, 8, 5))
        self.told(TooLarge, row_papers, random_planes(1, 4, 12, 5))

    def test_example(self):
        papers = row_papers(read_planes("1 1,0 1,1"))
        self.assertEqual({head for head, _ in papers}, {"--", "-0", "-+", "0-", "0+", "00", "+-", "+0", "++"})
        # A refused head of two signs that stands for three rows.
        papers = row_papers(read_planes("1 1,0 1,1 1,2"))
        self.assertIn("-+", [head for head, (word, _) in papers if word == "refused"])


ROWS = [(0, 0, 1), (0, 1, 1), (5, 1, 3), (1, 0, 1), (1, 1, 1), (6, 2, 5), (2, 0, 1), (3, 1, 1), (1, 1, 2)]


class TestSwappedSigns(unittest.TestCase):

    def setUp(self):
        self.signs, self.comparisons = swapped_signs()

    def cancel(self, comparisons, signs=None):
        return comparisons_cancel(9, 3, signs or self.signs, comparisons)

    def test_signs(self):
        choices = list(combinations(range(9), 3))
        self.assertEqual(len(self.signs), 84)
        for letter, part in zip(self.signs, choices):
            worth = determinant_by_orders([ROWS[at] for at in part])
            if part == (2, 5, 8):
                self.assertEqual(worth, 0)
                self.assertIn(letter, "+-")
            else:
                self.assertEqual(letter, "+" if worth > 0 else "-" if worth < 0 else "0")
        for i in range(3):
            for j in range(3):
                for k in range(3):
                    if (i + j + k) % 3 == 0:
                        self.assertEqual(determinant_by_orders([ROWS[i], ROWS[3 + j], ROWS[6 + k]]), 0)

    def test_comparisons(self):
        due = []
        for i in range(3):
            for j in range(3):
                k = next(k for k in range(3) if (i + j + k) % 3 == 0)
                due.append(((i,), 3 + j, (i + 1) % 3, (i + 2) % 3, 6 + k))
        self.assertEqual(self.comparisons, due)
        kinds = [kind_of(9, 3, self.signs, told) for told in self.comparisons]
        self.assertEqual(kinds, ["even"] * 8 + ["strict"])
        # With the other sign, or 0, the last comparison is neither, or even.
        at = list(combinations(range(9), 3)).index((2, 5, 8))
        turned = self.signs[:at] + {"+": "-", "-": "+"}[self.signs[at]] + self.signs[at + 1:]
        drawn = self.signs[:at] + "0" + self.signs[at + 1:]
        self.assertEqual(kind_of(9, 3, turned, self.comparisons[-1]), "neither")
        self.assertEqual(kind_of(9, 3, drawn, self.comparisons[-1]), "even")
        self.assertIs(self.cancel(self.comparisons, turned), False)
        self.assertIs(self.cancel(self.comparisons, drawn), False)

    def test_they_cancel(self):
        self.assertIs(self.cancel(self.comparisons), True)
        left = sorted(tuple(sorted(x + part)) for x, a, b, c, d in self.comparisons for part in ((a, b), (c, d)))
        right = sorted(tuple(sorted(x + part)) for x, a, b, c, d in self.comparisons for part in ((a, c), (b, d)))
        self.assertEqual(left, right)
        draw = Random(2)
        for _ in range(9):
            mixed = list(self.comparisons)
            draw.shuffle(mixed)
            self.assertIs(self.cancel(mixed), True)
        self.assertIs(self.cancel(self.comparisons * 2), True)

    def test_comparisons_left_out_changed_and_told_twice(self):
        for at, (x, *four) in enumerate(self.comparisons):
            rest = self.comparisons[:at] + self.comparisons[at + 1:]
            self.assertIs(self.cancel(rest), False)
            self.assertIs(self.cancel(self.comparisons + [self.comparisons[at]]), False)
            for order in permutations(four):
                changed = [(x, *order)] + rest
                kind = kind_of(9, 3, self.signs, (x, *order))
                kinds = [kind_of(9, 3, self.signs, told) for told in changed]
                left = sorted(tuple(sorted(y + part)) for y, a, b, c, d in changed for part in ((a, b), (c, d)))
                right = sorted(tuple(sorted(y + part)) for y, a, b, c, d in changed for part in ((a, c), (b, d)))
                due = kind != "neither" and "strict" in kinds and left == right
                self.assertIs(self.cancel(changed), due)
            for other in (((8,), *four), ((x[0] + 1,), *four), (x, *four[:3], (four[3] + 1) % 9)):
                if len({*other[0], *other[1:]}) == 5:
                    self.assertIs(self.cancel([other] + rest), False)

    def test_turned_rows(self):
        # The other sign for each determinant with a row: what was strict or even, stays so.
        choices = list(combinations(range(9), 3))
        for row in range(9):
            signs = "".join({"+": "-", "-": "+", "0": "0"}[letter] if row in part else letter
                            for letter, part in zip(self.signs, choices))
            self.assertIs(self.cancel(self.comparisons, signs), True)
        turned = "".join({"+": "-", "-": "+", "0": "0"}[letter] for letter in self.signs)
        self.assertIs(self.cancel(self.comparisons, turned), True)

    def test_other_indexes(self):
        # The rows in another order: the signs and the comparisons by the new indexes cancel as well.
        order = [4, 7, 1, 0, 8, 2, 6, 3, 5]
        old = list(combinations(range(9), 3))
        signs = ""
        for part in old:
            told = [order[at] for at in part]
            worth = self.signs[old.index(tuple(sorted(told)))]
            wrong = sum(told[i] > told[j] for j in range(3) for i in range(j))
            signs += worth if wrong % 2 == 0 else {"+": "-", "-": "+", "0": "0"}[worth]
        moved = [((order.index(x[0]),), *[order.index(at) for at in four]) for x, *four in self.comparisons]
        self.assertIs(self.cancel(moved, signs), True)
        self.assertIs(self.cancel(moved), False)

    def test_signs_of_planes_do_not_cancel(self):
        # The figure with a row moved a little is drawn, and seven of its rows are planes.
        for k in range(9):
            rows = [row if at != k else (row[0] * 7 + 1, row[1] * 7, row[2] * 7) for at, row in enumerate(ROWS)]
            signs = "".join("+" if worth > 0 else "-" if worth < 0 else "0" for worth in (
                determinant_by_orders([rows[at] for at in part]) for part in combinations(range(9), 3)))
            self.assertIs(self.cancel(self.comparisons, signs), False)
        for left_out in combinations(range(9), 2):
            seven = [row for at, row in enumerate(ROWS) if at not in left_out]
            signs = signs_of(Planes(3, [row + (0,) for row in seven]))
            every = [((x,), a, b, c, d) for x in range(7) for a, b, c, d in permutations(range(7), 4) if x not in (a, b, c, d)]
            some = Random(sum(left_out)).sample(every, 40)
            for one, other in zip(some, some[1:]):
                self.assertIs(comparisons_cancel(7, 3, signs, [one, other]), False)

    def test_the_laws_of_determinants_are_kept(self):
        # Seven of the nine rows, with the swapped sign among them, have no fault.
        old = list(combinations(range(9), 3))
        for left_out in combinations([0, 1, 3, 4, 6, 7], 2):
            kept = [at for at in range(9) if at not in left_out]
            signs = "".join(self.signs[old.index(part)] for part in combinations(kept, 3))
            self.assertIsNone(exchange_fault(7, 3, signs))

    def test_results_may_be_changed(self):
        self.comparisons.clear()
        self.assertEqual(len(swapped_signs()[1]), 9)


if __name__ == "__main__":
    unittest.main()

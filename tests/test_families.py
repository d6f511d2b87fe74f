"""[238] and [239]: families and labels."""

import unittest
from itertools import combinations, product

from planeworth.counting import polynomial
from planeworth.errors import BadNumber, NoAnswer, NotRow
from planeworth.families import family, label, room_with
from planeworth.graphs import Graph
from planeworth.mirrors import is_closed
from planeworth.planes import Planes
from planeworth.rooms import rooms
from planeworth.texts import text_of_planes
from tests.helpers import BIG, Refusals, all_rows

SIZES = {"axes": (1, 2, 3, 4), "pairs": (1, 2, 3, 4), "even": (1, 2, 3, 4), "signs": (1, 2, 3), "six": (3,),
         "parking": (1, 2, 3), "ballot": (1, 2), "apart": (1, 2, 3), "above": (1, 2, 3, 4)}

TEXTS = {
    ("axes", 1): "1 1,0",
    ("axes", 4): "4 1,0,0,0,0 0,1,0,0,0 0,0,1,0,0 0,0,0,1,0",
    ("pairs", 1): "1",
    ("pairs", 3): "3 1,-1,0,0 1,0,-1,0 0,1,-1,0",
    ("pairs", 4): "4 1,-1,0,0,0 1,0,-1,0,0 1,0,0,-1,0 0,1,-1,0,0 0,1,0,-1,0 0,0,1,-1,0",
    ("even", 1): "1",
    ("even", 2): "2 1,-1,0 1,1,0",
    ("even", 3): "3 1,-1,0,0 1,1,0,0 1,0,-1,0 1,0,1,0 0,1,-1,0 0,1,1,0",
    ("signs", 1): "1 1,0",
    ("signs", 2): "2 1,0,0 0,1,0 1,-1,0 1,1,0",
    ("signs", 3): "3 1,0,0,0 0,1,0,0 0,0,1,0 1,-1,0,0 1,1,0,0 1,0,-1,0 1,0,1,0 0,1,-1,0 0,1,1,0",
    ("six", 3): "3 1,-1,0,0 1,0,-1,0 0,1,-1,0 2,-1,-1,0 -1,2,-1,0 -1,-1,2,0",
    ("parking", 1): "1 1,0 1,-1",
    ("parking", 2): "2 1,0,0 1,0,-1 0,1,0 0,1,-1 -1,1,0 -1,1,-1",
    ("ballot", 1): "1 1,-1 1,0 1,1",
    ("ballot", 2): "2 1,0,-1 1,0,0 1,0,1 0,1,-1 0,1,0 0,1,1 -1,1,-1 -1,1,0 -1,1,1",
    ("apart", 1): "1 1,-1 1,1",
    ("apart", 2): "2 1,0,-1 1,0,1 0,1,-1 0,1,1 -1,1,-1 -1,1,1",
    ("above", 2): "2 1,0,1 0,1,1 -1,1,1",
    ("above", 3): "3 1,0,0,1 0,1,0,1 0,0,1,1 -1,1,0,1 -1,0,1,1 0,-1,1,1",
}
ROUNDS = {"parking": (0, -1), "ballot": (-1, 0, 1), "apart": (-1, 1), "above": (1,)}


def labels_of(m, row):
    """The labels, worked out from the words of [239]."""
    sides = {}
    steps = [(i, j, g) for i, j in combinations(range(m + 1), 2) for g in (0, -1)]
    for step, letter in zip(steps, row):
        sides[step] = letter
    return tuple(sum(sides[v, w, -1] == "-" for w in range(v + 1, m + 1)) + sum(sides[w, v, 0] == "+" for w in range(v))
                 for v in range(m + 1))


def is_parking(labels):
    return all(0 <= x <= k for k, x in enumerate(sorted(labels)))


class TestFamilies(unittest.TestCase, Refusals):

    def test_texts(self):
        for (word, m), text in TEXTS.items():
            self.assertEqual(text_of_planes(family(word, m)), text)

    def test_each_word_and_number(self):
        for word, sizes in SIZES.items():
            for m in (-BIG, -1, 0, 1, 2, 3, 4, 5, 6, BIG):
                if m in sizes:
                    found = family(word, m)
                    self.assertIsInstance(found, Planes)
                    self.assertEqual(found.n, m)
                    if word in ROUNDS:
                        steps = [(i, j, g) for i, j in combinations(range(m + 1), 2) for g in ROUNDS[word]]
                        self.assertEqual(found, Graph(m, steps).planes())
                    else:
                        self.assertIs(is_closed(found), True)
                else:
                    self.told(BadNumber, family, word, m)

    def test_numbers_of_planes(self):
        many = {"axes": (1, 2, 3, 4), "pairs": (0, 1, 3, 6), "even": (0, 2, 6, 12), "signs": (1, 4, 9),
                "parking": (2, 6, 12), "ballot": (3, 9), "apart": (2, 6, 12), "above": (1, 3, 6, 10)}
        for word, due in many.items():
            self.assertEqual(tuple(len(family(word, m)) for m in SIZES[word]), due)

    def test_other_words(self):
        for word in ("", "axe", "Axes", "axes ", "parkings", "0", "none", "label", "six3"):
            for m in (1, 2, 3):
                self.told(BadNumber, family, word, m)


class TestLabels(unittest.TestCase, Refusals):

    def test_each_parking_row_is_that_of_one_room(self):
        for m in (1, 2, 3):
            planes = family("parking", m)
            due = sorted(row for row in product(range(m + 1), repeat=m + 1) if is_parking(row))
            every = rooms(planes)
            self.assertEqual(len(due), (m + 2) ** m)
            self.assertEqual(sorted(label(m, room) for room in every), due)
            for room in every:
                self.assertEqual(room_with(m, labels_of(m, room)), room)
                self.assertEqual(label(m, room), labels_of(m, room))

    def test_rows_that_are_no_rooms(self):
        for m, jump in ((1, 1), (2, 1), (3, 37)):
            for row in all_rows(m * (m + 1), "+-")[::jump]:
                self.assertEqual(label(m, row), labels_of(m, row))

    def test_polynomials(self):
        for m in (1, 2, 3):
            due = [1]
            for _ in range(m):
                due = [a - (m + 1) * b for a, b in zip([0] + due, due + [0])]
            self.assertEqual(polynomial(family("parking", m)), due)

    def test_tuples_that_are_no_parking_rows(self):
        for m in (1, 2, 3):
            for labels in product(range(-1, m + 2), repeat=m + 1):
                if not is_parking(labels) and (m < 3 or sum(labels) % 7 == 0):
                    self.told(NoAnswer, room_with, m, labels)
            for labels in ((), (0,) * m, (0,) * (m + 2), (BIG,) * (m + 1), (-BIG,) + (0,) * m):
                self.told(NoAnswer, room_with, m, labels)

    def test_errors_in_their_order(self):
        for m in (0, 4, -1, BIG):
            self.told(BadNumber, label, m, "++")
            self.told(BadNumber, label, m, "no")
            self.told(BadNumber, room_with, m, (0, 0))
            self.told(BadNumber, room_with, m, (7,))
        for m, rows in ((1, ("", "+", "+++", "+0", "00", "x+", "+x")), (2, ("++", "+++++", "+++++++", "+++++0", "++x+++"))):
            for row in rows:
                self.told(NotRow, label, m, row)

    def test_example(self):
        self.assertEqual([label(1, row) for row in ("--", "-+", "++")], [(1, 0), (0, 0), (0, 1)])
        self.assertEqual(rooms(family("parking", 1)), ["++", "-+", "--"])


if __name__ == "__main__":
    unittest.main()

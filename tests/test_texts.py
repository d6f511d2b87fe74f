"""[28]: words and texts of planes, lists and points."""

import unittest

from planeworth.errors import BadNumber, Malformed, NotPlanes, NotPoint, TooLarge
from planeworth.planes import Planes
from planeworth.texts import plane_word, read_plane, read_planes, read_point, text_of_planes, text_of_point
from tests.helpers import BIG, EXAMPLE, NO_NUMBERS, SMALL_LISTS, Refusals, pairs, random_planes

WRONG_LETTERS = (0, 5, -1)
LONG = "7" * 30000


class TestPlaneWords(unittest.TestCase, Refusals):

    def test_there_and_back(self):
        for n, plane, word in ((1, (1, 0), "1,0"), (2, (-1, 0, 10), "-1,0,10"), (1, (1000, -999), "1000,-999"),
                               (4, (0, 0, 0, -1, 1000), "0,0,0,-1,1000"), (3, (2, 4, 6, 7), "2,4,6,7")):
            self.assertEqual(plane_word(n, plane), word)
            self.assertEqual(read_plane(n, word), plane)

    def test_errors_of_plane_word(self):
        for n in WRONG_LETTERS:
            self.told(BadNumber, plane_word, n, (1, 0))
            self.told(BadNumber, plane_word, n, (2, 0))
        for plane in ((2, 0), (0, 1), (0, 0), (1001, 1), (1, 1001), (1,), (1, 0, 0), (), (BIG, 1), (10 ** 9000, 1)):
            self.told(NotPlanes, plane_word, 1, plane)

    def test_words_that_are_none(self):
        for word in ("", ",", "1", "1,", ",1", "1,0,0", "1,,0", "1,0,", ",1,0", " 1,0", "1,0 ", "1, 0", "+1,0", "01,0",
                     "1,-0", "1,00", "1,x", "1/2,0", "1;0", "2,0", "0,1", "0,0", "1001,1", "1,-1001", "1,\u0661",
                     "\u00b2,1", "1_0,1", "1.0,1", "1\n,0", "1,0\n", LONG + ",1", "1," + LONG, "1,-" + LONG, LONG,
                     ",".join(["1"] * 30000)):
            with self.subTest(word[:20]):
                self.assertEqual(self.told(Malformed, read_plane, 1, word).at, 0)

    def test_letters_go_ahead(self):
        for n in WRONG_LETTERS:
            self.told(BadNumber, read_plane, n, "1,0")
            self.told(BadNumber, read_plane, n, "")


class TestListTexts(unittest.TestCase, Refusals):

    def test_there_and_back(self):
        for planes in SMALL_LISTS + [random_planes(k, 4, 12, 1000) for k in range(4)]:
            text = text_of_planes(planes)
            self.assertEqual(text, " ".join([str(planes.n)] + [",".join(map(str, row)) for row in planes.planes()]))
            back = read_planes(text)
            self.assertIsInstance(back, Planes)
            self.assertEqual(back, planes)

    def test_example(self):
        self.assertEqual(text_of_planes(EXAMPLE), "2 1,0,0 0,1,0 1,1,1")
        self.assertEqual(text_of_planes(Planes(3, [])), "3")
        self.assertEqual(read_planes("3"), Planes(3, []))

    def test_first_words(self):
        for text in ("", " ", "0", "5", "9", "12", "01", "+1", "-1", "x", "1,0", "1,0 1,0", " 1 1,0", "\u0661 1,0",
                     "1\n", "0 x", LONG, LONG + " 1,0"):
            with self.subTest(text[:20]):
                self.assertEqual(self.told(Malformed, read_planes, text).at, 0)

    def test_the_first_wrong_word_is_told(self):
        for text, at in (("1 ", 1), ("1 x", 1), ("1 1,0 ", 2), ("1  1,0", 1), ("1 1,0  1,1", 2), ("1 1,0 1,1 2,0", 3),
                         ("1 1,0 1,0,0 x", 2), ("2 1,0,0 1,0", 2), ("2 1,0,0 0,0,1 x", 2), ("1 1,0\n", 1),
                         ("1 1,0 1,1 +1,2", 3), ("1 1,0 1,02", 2), ("1 1,0 1,-0", 2), ("1 1001,1", 1),
                         ("1 1,0 1," + LONG, 2), ("1 " + LONG + ",1 x", 1), ("1 1,0 , 1,0", 2)):
            with self.subTest(text[:20]):
                self.assertEqual(self.told(Malformed, read_planes, text).at, at)

    def test_not_planes_stands_behind_malformed(self):
        self.told(NotPlanes, read_planes, "1 1,0 1,0")
        self.told(NotPlanes, read_planes, "1 1,2 -1,-2")
        self.assertEqual(self.told(Malformed, read_planes, "1 1,0 1,0 x").at, 3)
        thirteen = "1 " + " ".join(f"1,{k}" for k in range(13))
        self.told(NotPlanes, read_planes, thirteen)
        self.assertEqual(self.told(Malformed, read_planes, thirteen + " x").at, 14)
        self.assertEqual(len(read_planes(thirteen.rsplit(" ", 1)[0])), 12)


class TestPoints(unittest.TestCase, Refusals):

    def test_there_and_back(self):
        for n, point, text in ((1, pairs(0), "0"), (2, pairs("1/2", "-1/3"), "1/2,-1/3"),
                               (4, pairs(1, -2, "7/5", BIG), f"1,-2,7/5,{BIG}"), (3, pairs(0, 0, 0), "0,0,0")):
            self.assertEqual(text_of_point(n, point), text)
            self.assertEqual(read_point(n, text), point)

    def test_errors_of_text_of_point(self):
        for n in WRONG_LETTERS:
            self.told(BadNumber, text_of_point, n, ((2, 4),))
        for point in [(), pairs(1), pairs(1, 2, 3)] + [((10 ** 500, 1), x) for x in NO_NUMBERS]:
            self.told(NotPoint, text_of_point, 2, point)

    def test_how_many_figures(self):
        most = 10 ** 400 - 1
        for x in ((most, 1), (-most, 1), (1, most)):
            self.assertEqual(read_point(2, text_of_point(2, (x, (0, 1)))), (x, (0, 1)))
        for size in (400, 5000):
            for x in ((10 ** size, 1), (-10 ** size, 1), (1, 10 ** size)):
                self.told(TooLarge, text_of_point, 2, ((0, 1), x))
        for size in (401, 5000, 30000):
            self.assertEqual(self.told(Malformed, read_point, 2, "0," + "7" * size).at, 1)
            self.assertEqual(self.told(Malformed, read_point, 2, "1/" + "7" * size + ",x").at, 0)

    def test_pieces(self):
        for n in WRONG_LETTERS:
            self.told(BadNumber, read_point, n, "")
        for n, text, at in ((2, "", 0), (2, "1", 0), (2, "x", 0), (2, "1,2,3", 0), (2, "x,y,z", 0), (1, "1,", 0),
                            (1, "", 0), (1, " 1", 0), (1, "1/1", 0), (2, "x,y", 0), (2, "1,y", 1), (2, "1,", 1),
                            (2, ",1", 0), (3, "1,2/4,x", 1), (3, "1,2,+3", 2), (4, "1,2,3,-0", 3), (2, "1, 2", 1),
                            (2, "1,2 ", 1), (2, "1/2,01", 1), (2, "1/2/3,1", 0), (3, "1,,1", 1), (2, "1,\u0661", 1)):
            with self.subTest(text):
                self.assertEqual(self.told(Malformed, read_point, n, text).at, at)


if __name__ == "__main__":
    unittest.main()

"""The helper that mixes columns to a target, or parts them from it."""

import unittest
from random import Random

from planeworth.mixtures import mixture
from tests.helpers import dot, figures, fractions


class TestMixture(unittest.TestCase):

    def check(self, columns, target):
        word, told = mixture(columns, target)
        if word == "mixed":
            amounts = fractions(told)
            self.assertEqual(len(amounts), len(columns))
            self.assertTrue(all(x >= 0 for x in amounts))
            for k, want in enumerate(target):
                self.assertEqual(dot(amounts, [column[k] for column in columns]), want)
        else:
            self.assertEqual(word, "parted")
            self.assertEqual(len(told), len(target))
            self.assertTrue(all(dot(told, column) >= 0 for column in columns))
            self.assertLess(dot(told, target), 0)
        return word

    def test_told_cases(self):
        self.assertEqual(mixture([], ()), ("mixed", ()))
        self.assertEqual(mixture([], (0, 0)), ("mixed", ()))
        self.assertEqual(self.check([], (0, -2)), "parted")
        self.assertEqual(mixture([(2,)], (3,)), ("mixed", ((3, 2),)))
        self.assertEqual(mixture([(-2,)], (-3,)), ("mixed", ((3, 2),)))
        self.assertEqual(self.check([(2,)], (-3,)), "parted")
        self.assertEqual(self.check([(1, 0), (0, 1)], (5, -1)), "parted")

    def test_random_columns(self):
        draw = Random(1)
        words = []
        for _ in range(600):
            height, many, most = draw.randint(1, 6), draw.randint(0, 10), draw.choice((1, 2, 1000))
            columns = [tuple(draw.randint(-most, most) for _ in range(height)) for _ in range(many)]
            target = tuple(draw.choice((0, 0, draw.randint(-most, most))) for _ in range(height))
            words.append(self.check(columns, target))
        self.assertGreater(words.count("mixed"), 100)
        self.assertGreater(words.count("parted"), 100)

    def test_the_target_is_a_mixture(self):
        draw = Random(2)
        for _ in range(200):
            height, many = draw.randint(1, 6), draw.randint(1, 10)
            columns = [tuple(draw.randint(-1, 1) for _ in range(height)) for _ in range(many)]
            amounts = [draw.choice((0, 0, 1, 3)) for _ in columns]
            target = tuple(sum(a * column[k] for a, column in zip(amounts, columns)) for k in range(height))
            self.assertEqual(self.check(columns, target), "mixed")

    def test_integers_stay_small(self):
        draw = Random(3)
        for _ in range(20):
            columns = [tuple(draw.randint(-1000, 1000) for _ in range(6)) for _ in range(25)]
            word, told = mixture(columns, (0, 0, 0, 0, 0, 1))
            if word == "mixed":
                self.assertLessEqual(figures(told), 40)
            else:
                self.assertLess(max(abs(a) for a in told), 10 ** 40)


if __name__ == "__main__":
    unittest.main()

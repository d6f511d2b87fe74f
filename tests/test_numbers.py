"""[1] and [2]: numbers, their texts, rows cleared."""

import unittest
from fractions import Fraction
from itertools import product
from math import gcd

from planeworth.errors import BadNumber, Malformed, NotNumber, TooLarge
from planeworth.numbers import (check_number, cleared, is_less, is_number, minus, number, number_text, over, plus,
                                read_number, sign, times)
from tests.helpers import BIG, NO_NUMBERS, Refusals, pair, pairs

NUMBERS = [pair(x) for x in (0, 1, -1, 2, -3, Fraction(1, 2), Fraction(-2, 3), Fraction(7, 5), BIG, -BIG,
                             Fraction(BIG, 3), Fraction(-3, BIG), Fraction(BIG + 2, BIG), Fraction(10 ** 50 + 1, 6))]


class TestArithmetic(unittest.TestCase, Refusals):

    def test_is_number_and_check_number(self):
        for x in NUMBERS:
            self.assertIs(is_number(x), True)
            self.assertIsNone(check_number(x))
        for x in NO_NUMBERS:
            with self.subTest(x):
                self.assertIs(is_number(x), False)
                self.told(NotNumber, check_number, x)

    def test_is_number_for_all_small_pairs(self):
        for a, b in product(range(-12, 13), repeat=2):
            told = b >= 1 and not any(a % k == 0 and b % k == 0 for k in range(2, 13))
            self.assertIs(is_number((a, b)), told, (a, b))

    def test_number(self):
        for a, b in product(range(-12, 13), repeat=2):
            if b != 0:
                self.assertEqual(number(a, b), pair(Fraction(a, b)))
        self.assertEqual(number(0), (0, 1))
        self.assertEqual(number(-5), (-5, 1))
        self.assertEqual(number(a=6, b=-4), (-3, 2))
        self.assertEqual(number(6 * BIG, -4 * BIG), (-3, 2))
        self.assertEqual(number(BIG), (BIG, 1))

    def test_number_with_divisor_0(self):
        for a in (0, 1, -1, BIG):
            self.told(BadNumber, number, a, 0)

    def test_sums_products_and_orders_of_two(self):
        for x, y in product(NUMBERS, repeat=2):
            p, q = Fraction(*x), Fraction(*y)
            self.assertEqual(plus(x, y), pair(p + q))
            self.assertEqual(minus(x, y), pair(p - q))
            self.assertEqual(times(x, y), pair(p * q))
            self.assertIs(is_less(x, y), p < q)
            if q:
                self.assertEqual(over(x, y), pair(p / q))
            else:
                self.told(BadNumber, over, x, y)

    def test_sign(self):
        for x in NUMBERS:
            self.assertEqual(sign(x), (x[0] > 0) - (x[0] < 0))

    def test_wrong_numbers_at_each_place(self):
        for x in NO_NUMBERS:
            for call in (plus, minus, times, over, is_less):
                for y in NUMBERS + NO_NUMBERS:
                    self.told(NotNumber, call, x, y)
                    self.told(NotNumber, call, y, x)
            for call in (sign, number_text):
                self.told(NotNumber, call, x)

    def test_not_number_goes_ahead_of_a_divisor_0(self):
        self.told(NotNumber, over, (2, 4), (0, 1))
        self.told(NotNumber, over, (1, 2), (0, 2))


class TestTexts(unittest.TestCase, Refusals):

    def test_told_texts(self):
        for x, text in (((0, 1), "0"), ((1, 1), "1"), ((-7, 1), "-7"), ((1, 2), "1/2"), ((-10, 3), "-10/3"),
                        ((BIG, 1), str(BIG)), ((-1, BIG), f"-1/{BIG}")):
            self.assertEqual(number_text(x), text)
            self.assertEqual(read_number(text), x)

    def test_there_and_back(self):
        for x in NUMBERS:
            self.assertEqual(read_number(number_text(x)), x)
        for a, b in product(range(-20, 21), range(1, 21)):
            if gcd(a, b) == 1:
                self.assertEqual(read_number(number_text((a, b))), (a, b))

    def test_no_texts(self):
        for text in ("", "+1", "+", "-", "--1", "01", "-01", "00", "-0", "1/1", "0/1", "2/4", "-2/4", "1/0", "0/0",
                     "0/2", "1/-2", "1/+2", "1/02", "1/", "/2", "/", "1/2/3", "1//2", " 1", "1 ", "1 /2", "1/ 2",
                     "1\n", "1/2\n", "x", "1x", "1.0", "1e3", "1_0", "0x1", "\u0661", "\u00b2", "1/\u0662", "\uff11",
                     "1,2", "1/-0", "-0/3", "-1/1", "7/7", "None"):
            with self.subTest(text):
                self.assertEqual(self.told(Malformed, read_number, text).at, 0)

    def test_400_figures_are_written_and_read(self):
        most = 10 ** 400 - 1
        for x in ((most, 1), (-most, 1), (1, most), (-1, most), (most - 1, most), (1 - most, most)):
            text = number_text(x)
            self.assertEqual(max(map(len, text.removeprefix("-").split("/"))), 400)
            self.assertEqual(read_number(text), x)

    def test_more_figures_are_refused(self):
        for size in (400, 401, 4300, 5000, 30000):
            long = 10 ** size
            for x in ((long, 1), (-long, 1), (1, long), (-1, long), (long + 1, long)):
                self.told(TooLarge, number_text, x)
        for size in (401, 4300, 4301, 5000, 60000):
            figures = "7" * size
            for text in (figures, "-" + figures, "1/" + figures, figures + "/2", figures + "/" + figures):
                self.assertEqual(self.told(Malformed, read_number, text).at, 0)

    def test_not_number_goes_ahead_of_too_large(self):
        self.told(NotNumber, number_text, (2 * 10 ** 400, 2))


class TestCleared(unittest.TestCase, Refusals):

    def test_told_rows(self):
        self.assertEqual(cleared(pairs("1/2", "-1/3")), (3, -2))
        self.assertEqual(cleared(()), ())
        self.assertEqual(cleared(pairs(0, 0, 0)), (0, 0, 0))
        self.assertEqual(cleared(pairs(6, -9, 0)), (2, -3, 0))
        self.assertEqual(cleared(pairs(-6)), (-1,))
        self.assertEqual(cleared(pairs("4/3", "2/5")), (10, 3))
        self.assertEqual(cleared(pairs("-1/2")), (-1,))

    def test_it_is_a_multiple_without_a_common_divisor(self):
        values = [Fraction(a, b) for a in (-6, 0, 4) for b in (1, 3, 10)]
        for row in product(values, repeat=3):
            told = cleared(pairs(*row))
            self.assertIsInstance(told, tuple)
            if any(row):
                factor = {x / y for x, y in zip(told, row) if y}
                self.assertEqual(len(factor), 1)
                self.assertGreater(factor.pop(), 0)
                self.assertEqual([not x for x in told], [not y for y in row])
                self.assertEqual(gcd(*told), 1)
            else:
                self.assertEqual(told, (0, 0, 0))

    def test_long_integers(self):
        self.assertEqual(cleared(pairs(Fraction(BIG, 7), Fraction(-BIG, 2))), (2, -7))

    def test_no_numbers(self):
        for x in NO_NUMBERS:
            self.told(NotNumber, cleared, (x,))
            self.told(NotNumber, cleared, ((1, 2), x))


if __name__ == "__main__":
    unittest.main()

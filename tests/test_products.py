"""[102] to [104] and [112]: sums of products, their texts, relations."""

import unittest
from fractions import Fraction
from itertools import combinations
from random import Random

from planeworth.errors import BadNumber, Malformed, NotNumber, NotSum, TooLarge
from planeworth.planes import Planes
from planeworth.products import Sum, read_sum, relation_sum, zero_sum
from planeworth.texts import read_planes
from tests.helpers import BIG, EXAMPLE, NO_NUMBERS, Refusals, Told, all_indexes, pair, random_planes, random_sum

THROUGH = read_planes("2 1,0,0 0,1,0 1,1,0")
TWELVE = random_planes(60, 4, 12, 1000)
MIXED = read_planes("2 1,0,0 1,0,1 0,1,0 1,1,0 1,-1,0 0,1,1")


def summed(pairs):
    """The terms that are due, told by a dict of fractions."""
    found = {}
    for product, x in pairs:
        found[product] = found.get(product, Fraction(0)) + Fraction(*x)
    return [(product, pair(found[product])) for product in sorted(found) if found[product]]


def signed(indexes):
    """The sign of an order by the number of swaps of neighbours that sort it, and the ascending tuple; or None."""
    rest = list(indexes)
    if len(set(rest)) < len(rest):
        return None
    sign = 1
    for _ in rest:
        for k in range(len(rest) - 1):
            if rest[k] > rest[k + 1]:
                rest[k], rest[k + 1] = rest[k + 1], rest[k]
                sign = -sign
    return sign, tuple(rest)


class TestSum(unittest.TestCase, Refusals):

    def test_terms_are_gathered(self):
        draw = Random(5)
        for size in range(0, 5):
            every = list(combinations(range(12), size))
            for _ in range(20):
                pairs = [(draw.choice(every), pair(Fraction(draw.randint(-3, 3), draw.randint(1, 3)))) for _ in range(12)]
                one = Sum(TWELVE, size, pairs)
                self.assertEqual(one.terms(), summed(pairs))
                self.assertEqual(len(one), len(summed(pairs)))
                self.assertIs(bool(one), len(summed(pairs)) > 0)
                for product in every[:60]:
                    want = dict(summed(pairs)).get(product, (0, 1))
                    self.assertEqual(one.at(product), want)
                self.assertEqual(one.base, TWELVE)
                self.assertEqual(one.size, size)

    def test_cancelled_and_zero(self):
        one = Sum(THROUGH, 2, [((1, 2), (1, 2)), ((0, 1), (0, 1)), ((1, 2), (-1, 2))])
        self.assertEqual(one.terms(), [])
        self.assertFalse(one)
        self.assertEqual(len(one), 0)
        self.assertEqual(one, zero_sum(THROUGH, 2))
        self.assertEqual(Sum(THROUGH, 0, [((), (3, 1)), ((), (1, 1))]).terms(), [((), (4, 1))])

    def test_lists_are_not_shared(self):
        terms = [((0, 1), (1, 1))]
        one = Sum(THROUGH, 2, terms)
        terms.append(((1, 2), (1, 1)))
        one.terms().append(((0, 2), (5, 1)))
        one.terms().clear()
        self.assertEqual(one.terms(), [((0, 1), (1, 1))])
        self.assertEqual(terms, [((0, 1), (1, 1)), ((1, 2), (1, 1))])

    def test_sizes(self):
        for size in (-1, 13, BIG):
            self.told(BadNumber, Sum, THROUGH, size, [])
            self.told(BadNumber, Sum, THROUGH, size, [((9,), (2, 4))])
            self.told(BadNumber, zero_sum, THROUGH, size)
        for size in (0, 12):
            self.assertEqual(zero_sum(THROUGH, size).terms(), [])
            self.assertEqual(zero_sum(THROUGH, size).size, size)
        self.assertEqual(Sum(TWELVE, 12, [(tuple(range(12)), (1, 1))]).terms(), [(tuple(range(12)), (1, 1))])

    def test_the_first_wrong_pair(self):
        good = ((0, 2), (1, 1))
        for product in ((), (0,), (1, 0), (1, 1), (0, 3), (-1, 0), (0, 1, 2), (0, BIG)):
            self.told(NotSum, Sum, THROUGH, 2, [(product, (1, 1))])
            self.told(NotSum, Sum, THROUGH, 2, [good, (product, (2, 4)), ((0, 1), (2, 4))])
            self.told(NotNumber, Sum, THROUGH, 2, [good, ((0, 1), (2, 4)), (product, (1, 1))])
            self.told(NotSum, zero_sum(THROUGH, 2).at, product)
        for x in NO_NUMBERS:
            self.told(NotNumber, Sum, THROUGH, 2, [good, ((0, 1), x)])

    def test_equal(self):
        one = Sum(THROUGH, 1, [((0,), (1, 2)), ((2,), (3, 1))])
        self.assertTrue(one == Sum(read_planes("2 1,0,0 0,1,0 1,1,0"), 1, [((2,), (3, 1)), ((0,), (1, 2))]))
        self.assertFalse(one != Sum(THROUGH, 1, one.terms()))
        self.assertFalse(one == Sum(THROUGH, 1, [((0,), (1, 2))]))
        self.assertFalse(one == Sum(EXAMPLE, 1, one.terms()))
        self.assertFalse(zero_sum(THROUGH, 1) == zero_sum(THROUGH, 2))
        self.assertFalse(zero_sum(THROUGH, 1) == zero_sum(read_planes("3"), 1))

    def test_plus_minus_scaled(self):
        for seed in range(12):
            size = seed % 4
            one, other = random_sum(seed, MIXED, size), random_sum(seed + 50, MIXED, size)
            self.assertEqual((one + other).terms(), summed(one.terms() + other.terms()))
            turned = [(product, (-a, b)) for product, (a, b) in other.terms()]
            self.assertEqual((one - other).terms(), summed(one.terms() + turned))
            self.assertEqual((one - one).terms(), [])
            for x in ((0, 1), (1, 1), (-7, 3), (BIG, 2)):
                want = [(product, pair(Fraction(*y) * Fraction(*x))) for product, y in one.terms() if x[0]]
                self.assertEqual(one.scaled(x).terms(), want)
                self.assertEqual(one.scaled(x).size, size)
            for x in NO_NUMBERS:
                self.told(NotNumber, one.scaled, x)
        self.assertEqual(zero_sum(MIXED, 3).scaled((5, 1)), zero_sum(MIXED, 3))
        self.told(NotNumber, zero_sum(MIXED, 3).scaled, (2, 4))

    def test_lists_and_sizes_that_differ(self):
        one = Sum(THROUGH, 1, [((0,), (1, 1))])
        for other in (zero_sum(EXAMPLE, 1), zero_sum(THROUGH, 2), zero_sum(read_planes("2 1,0,0 1,1,0 0,1,0"), 1)):
            self.told(BadNumber, lambda: one + other)
            self.told(BadNumber, lambda: one - other)
        self.told(BadNumber, lambda: one * zero_sum(EXAMPLE, 1))
        self.told(BadNumber, lambda: one * zero_sum(EXAMPLE, 12))
        self.told(TooLarge, lambda: one * zero_sum(THROUGH, 12))
        self.told(TooLarge, lambda: zero_sum(THROUGH, 12) * one)
        self.assertEqual(one * zero_sum(THROUGH, 11), zero_sum(THROUGH, 12))

    def test_times(self):
        for seed in range(30):
            p, q = seed % 4, seed // 4 % 4
            one, other = random_sum(seed, MIXED, p), random_sum(seed + 99, MIXED, q)
            due = []
            for product, x in one.terms():
                for second, y in other.terms():
                    told = signed(product + second)
                    if told:
                        due.append((told[1], pair(told[0] * Fraction(*x) * Fraction(*y))))
            self.assertEqual((one * other).terms(), summed(due))
            self.assertEqual((one * other).size, p + q)

    def test_times_by_hand(self):
        def single(*product):
            return Sum(TWELVE, len(product), [(product, (1, 1))])
        self.assertEqual((single(2) * single(1)).terms(), [((1, 2), (-1, 1))])
        self.assertEqual((single(1) * single(2)).terms(), [((1, 2), (1, 1))])
        self.assertEqual((single(0, 3) * single(1, 2)).terms(), [((0, 1, 2, 3), (1, 1))])
        self.assertEqual((single(0, 3) * single(2)).terms(), [((0, 2, 3), (-1, 1))])
        self.assertEqual((single(1, 2) * single(2, 4)).terms(), [])
        self.assertEqual((single(1, 5) * single()).terms(), [((1, 5), (1, 1))])
        self.assertEqual((single() * single()).terms(), [((), (1, 1))])
        whole = single(1, 3, 5, 7, 9, 11) * single(0, 2, 4, 6, 8, 10)
        self.assertEqual(whole.terms(), [(tuple(range(12)), (-1, 1))])
        self.assertEqual(whole.size, 12)
        self.told(TooLarge, lambda: whole * single(3))
        self.assertEqual(whole * single(), whole)


class TestTexts(unittest.TestCase, Refusals):

    def test_there_and_back(self):
        for seed in range(24):
            one = random_sum(seed, TWELVE, seed % 13, most=10 ** (seed % 7 + 1))
            self.assertEqual(read_sum(TWELVE, one.text()), one)
            words = [str(one.size)]
            for product, x in one.terms():
                words += [str(Fraction(*x)), ",".join(map(str, product)) or "-"]
            self.assertEqual(one.text(), " ".join(words))

    def test_by_hand(self):
        one = Sum(THROUGH, 2, [((0, 2), (1, 2)), ((1, 2), (-1, 1))])
        self.assertEqual(one.text(), "2 1/2 0,2 -1 1,2")
        self.assertEqual(read_sum(THROUGH, "2 1/2 0,2 -1 1,2"), one)
        self.assertEqual(read_sum(THROUGH, "0 -7/3 -"), Sum(THROUGH, 0, [((), (-7, 3))]))
        self.assertEqual(Sum(THROUGH, 0, [((), (-7, 3))]).text(), "0 -7/3 -")
        for size in range(13):
            self.assertEqual(read_sum(THROUGH, str(size)), zero_sum(THROUGH, size))
            self.assertEqual(zero_sum(THROUGH, size).text(), str(size))

    def test_long_numbers(self):
        fits, long = 10 ** 400 - 1, 10 ** 400
        for x in ((fits, 1), (-fits, 1), (1, fits), (-fits, fits - 1)):
            one = Sum(THROUGH, 1, [((1,), x)])
            self.assertEqual(read_sum(THROUGH, one.text()), one)
        for x in ((long, 1), (-long, 1), (1, long), (3, long)):
            self.told(TooLarge, Sum(THROUGH, 1, [((1,), x)]).text)
        for word in ("1" * 401, "-" + "1" * 401, "1/1" + "0" * 400, "1" * 5000):
            self.assertEqual(self.told(Malformed, read_sum, THROUGH, f"1 1 0 {word} 1").at, 3)

    def test_malformed(self):
        for text, at in (
                ("", 0), (" 1", 0), ("x", 0), ("-1", 0), ("13", 0), ("01", 0), ("+1", 0), ("1.0", 0), ("1/2", 0),
                ("-0", 0), ("2 ", 1), ("2  1 0,1", 1), ("2 x 0,1", 1), ("2 0 0,1", 1), ("2 2/4 0,1", 1),
                ("2 1/1 0,1", 1), ("2 0/1 0,1", 1), ("2 1/-2 0,1", 1), ("2 1/0 0,1", 1), ("2 - 0,1", 1), ("2 0,1", 1),
                ("2 1", 2), ("2 1 ", 2), ("2 1  0,1", 2), ("2 1 0", 2), ("2 1 0,1,2", 2), ("2 1 -", 2), ("2 1 0,3", 2),
                ("2 1 0,-1", 2), ("2 1 -1,0", 2), ("2 1 00,1", 2), ("2 1 0,01", 2), ("2 1 1,0", 2), ("2 1 1,1", 2),
                ("2 1 0,1,", 2), ("2 1 ,0,1", 2), ("2 1 0;1", 2), ("2 1 a,b", 2), ("2 1 0,1 ", 3), ("2 1 0,1 2", 4),
                ("2 1 0,1 2 0,1", 4), ("2 1 0,2 2 0,1", 4), ("2 1 0,1 0 0,2", 3), ("2 1 0,1 1 0,2 3", 6),
                ("2 1 0,1 1 0,2 3 1,2 5 1,2", 8), ("0 1 - 1 -", 4), ("0 1 0", 2), ("1 1 -", 2), ("0 1", 2),
                ("1 1 0\n", 2), ("1\n", 0), ("1 1\t0", 1), ("3 1 0,1,2 1", 4)):
            self.assertEqual(self.told(Malformed, read_sum, THROUGH, text).at, at, text)


class TestRelations(unittest.TestCase, Refusals):

    def test_empty_and_tied(self):
        for planes in (MIXED, THROUGH, EXAMPLE, read_planes("3 1,0,0,0 0,1,0,0 1,1,0,0 0,0,1,0 1,1,1,0 1,1,1,1")):
            told = Told(planes)
            for part in all_indexes(planes):
                rank = told.rank(part)
                if not told.meets(part):
                    rule, kind, other = [(1, part)], "empty", "tied"
                elif rank < len(part):
                    rule = [((-1) ** k, part[:k] + part[k + 1:]) for k in range(len(part))]
                    kind, other = "tied", "empty"
                else:
                    for kind in ("empty", "tied"):
                        self.told(NotSum, relation_sum, planes, (kind, part, ()))
                    continue
                self.told(NotSum, relation_sum, planes, (other, part, ()))
                for rest in all_indexes(planes):
                    due = [signed(rest + product) and (signed(rest + product)[1], (sign * signed(rest + product)[0], 1))
                           for sign, product in rule]
                    one = relation_sum(planes, (kind, part, rest))
                    self.assertEqual(one.terms(), summed([term for term in due if term]))
                    self.assertEqual(one.size, len(part) + len(rest) - (kind == "tied"))
                    self.assertEqual(one.base, planes)

    def test_by_hand(self):
        one = relation_sum(THROUGH, ("tied", (0, 1, 2), ()))
        self.assertEqual(one.text(), "2 1 0,1 -1 0,2 1 1,2")
        self.assertEqual(relation_sum(THROUGH, ("tied", (0, 1, 2), (1,))).text(), "3 1 0,1,2")
        self.assertEqual(relation_sum(THROUGH, ("tied", (0, 1, 2), (0, 1))), zero_sum(THROUGH, 4))
        self.assertEqual(relation_sum(EXAMPLE, ("empty", (0, 1, 2), ())).text(), "3 1 0,1,2")
        self.assertEqual(relation_sum(EXAMPLE, ("empty", (0, 1, 2), (2,))), zero_sum(EXAMPLE, 4))
        planes = read_planes("2 1,0,0 1,0,1 0,1,0")
        self.assertEqual(relation_sum(planes, ("empty", (0, 1), (2,))).text(), "3 1 0,1,2")
        turned = read_planes("2 1,0,0 0,1,0 1,0,1")
        self.assertEqual(relation_sum(turned, ("empty", (0, 2), (1,))).text(), "3 -1 0,1,2")

    def test_errors_in_their_order(self):
        for relation in (("x", (0, 1, 2), ()), ("", (0, 1, 2), ()), ("Tied", (0, 1, 2), ()), ("empty", (), ()),
                         ("tied", (), ()), ("tied", (0, 1), ()), ("tied", (0, 2, 1), ()), ("tied", (0, 1, 3), ()),
                         ("tied", (0, 0, 1), ()), ("tied", (0, 1, 2), (1, 0)), ("tied", (0, 1, 2), (3,)),
                         ("tied", (0, 1, 2), (-1,)), ("tied", (0, 1, 2), (1, 1)), ("empty", (0, 1, 2), ()),
                         ("empty", (BIG,), ()), ("tied", (-1, 0, 1), ())):
            self.told(NotSum, relation_sum, THROUGH, relation)
        self.told(NotSum, relation_sum, EXAMPLE, ("tied", (0, 1, 2), ()))

    def test_too_large(self):
        central = Planes(4, [plane[:4] + (0,) for plane in random_planes(4, 4, 12, 20).planes()])
        every = tuple(range(12))
        self.assertEqual(relation_sum(central, ("tied", every, (4,))).terms(), [(every, (1, 1))])
        self.told(TooLarge, relation_sum, central, ("tied", every, (0, 1)))
        self.told(NotSum, relation_sum, central, ("tied", every, (1, 0)))
        self.told(NotSum, relation_sum, central, ("empty", every, every))
        self.assertEqual(relation_sum(TWELVE, ("empty", every, ())).terms(), [(every, (1, 1))])
        self.told(TooLarge, relation_sum, TWELVE, ("empty", every, (0,)))
        self.told(TooLarge, relation_sum, TWELVE, ("empty", every[:7], every[:6]))
        self.assertEqual(relation_sum(TWELVE, ("empty", every[:7], every[7:])).size, 12)


if __name__ == "__main__":
    unittest.main()

"""[105] to [111]: sums that are alike, plain sums, flags, papers, lowered sums, forms."""

import unittest
from fractions import Fraction
from itertools import combinations, permutations
from random import Random

from planeworth.alike import (are_alike, decide, flag_value, flags, form_at, is_answer, lowered, paper_sum, plain)
from planeworth.circuits import allowed, circuits
from planeworth.errors import BadNumber, NoAnswer, NotFlat, NotNumber, NotPoint, NotSum, TooLarge
from planeworth.planes import Planes
from planeworth.products import Sum, relation_sum, zero_sum
from planeworth.texts import read_planes
from tests.helpers import (BIG, EXAMPLE, NO_NUMBERS, SMALL_LISTS, Refusals, Told, determinant_by_orders, dot, pair, pairs,
                           random_planes, random_sum)

THROUGH = read_planes("2 1,0,0 0,1,0 1,1,0")
BRAID = read_planes("3 1,0,0,0 0,1,0,0 0,0,1,0 1,-1,0,0 1,0,-1,0 0,1,-1,0")
MIXED = read_planes("2 1,0,0 1,0,1 0,1,0 1,1,0 1,-1,0 0,1,1")
LISTS = SMALL_LISTS + [THROUGH, BRAID, MIXED, random_planes(3, 3, 5, 1000), random_planes(41, 4, 6, 1),
                       read_planes("1 1,0 1,1 1,2"), read_planes("3 1,0,0,0 1,0,0,1 0,1,0,0 1,1,0,0 1,1,0,1")]
TOLD = [Told(planes) for planes in LISTS]
TWELVE = random_planes(60, 4, 12, 1000)
CENTRAL = Planes(4, [plane[:4] + (0,) for plane in random_planes(4, 4, 12, 20).planes()])


def all_flags(told, size):
    """All chains of flats with the ranks 1, 2, .."""
    found = [[]]
    for rank in range(1, size + 1):
        level = [flat for flat in told.web() if told.rank(flat) == rank]
        found = [flag + [flat] for flag in found for flat in level if not flag or set(flag[-1]) <= set(flat)]
    return sorted(found)


def value(told, product, flag):
    """The value of a product at a flag, over all orders of its indexes."""
    total = 0
    for order in permutations(product):
        if all(told.meets(order[:k + 1]) and told.flat(order[:k + 1]) == flat for k, flat in enumerate(flag)):
            wrong = sum(order[i] > order[j] for j in range(len(order)) for i in range(j))
            total += (-1) ** wrong
    return total


class Values:
    """The values of all products of a size at all flags."""

    def __init__(self, told, size):
        self.flags = all_flags(told, size)
        every = combinations(range(len(told.rows)), size)
        self.table = {product: [value(told, product, flag) for flag in self.flags] for product in every}

    def of(self, one):
        return [sum(Fraction(*x) * self.table[product][k] for product, x in one.terms())
                for k in range(len(self.flags))]


VALUES = [(told, size, Values(told, size)) for told in TOLD for size in range(min(told.planes.n + 2, 5))]


class TestFlags(unittest.TestCase, Refusals):

    def test_all_flags(self):
        for told, size, values in VALUES:
            found = flags(told.planes, size)
            self.assertEqual(found, values.flags)
            found.clear()
            for flag in flags(told.planes, size):
                flag.append("x")
            self.assertEqual(flags(told.planes, size), values.flags)

    def test_sizes(self):
        for planes in (EXAMPLE, read_planes("4"), TWELVE):
            self.assertEqual(flags(planes, 0), [[]])
            for size in range(planes.n + 1, 13):
                self.assertEqual(flags(planes, size), [])
            for size in (-1, 13, BIG):
                self.told(BadNumber, flags, planes, size)
        self.assertEqual(flags(read_planes("3 1,0,0,0 1,0,0,1"), 2), [])

    def test_too_large(self):
        self.assertEqual(len(flags(TWELVE, 3)), 1320)
        self.told(TooLarge, flags, TWELVE, 4)
        self.assertEqual(len(flags(TWELVE.only(tuple(range(8))), 4)), 1680)
        self.told(TooLarge, flags, TWELVE.only(tuple(range(9))), 4)

    def test_just_3000(self):
        # Each four of the nine planes meet in a point of their own, but for the first four: 125 times 24 flags.
        rows = random_planes(61, 4, 9, 30).planes()
        rows[3] = tuple(a + b + c for a, b, c in zip(*[row[:4] for row in rows[:3]])) + (997,)
        planes = Planes(4, rows)
        self.assertEqual(len(flags(planes, 4)), 3000)

    def test_values_of_products(self):
        for told, size, values in VALUES:
            for product in list(values.table)[:12]:
                one = Sum(told.planes, size, [(product, (1, 1))])
                found = [flag_value(one, flag) for flag in values.flags]
                self.assertEqual(found, [(k, 1) for k in values.table[product]])

    def test_values_of_sums(self):
        for seed, (told, size, values) in enumerate(VALUES):
            one = random_sum(seed, told.planes, size)
            found = [flag_value(one, flag) for flag in values.flags]
            self.assertEqual(found, [pair(x) for x in values.of(one)])

    def test_no_flags(self):
        one = Sum(THROUGH, 2, [((0, 1), (1, 1))])
        for flag in ([], [(0,)], [(0,), (0, 1, 2), (0, 1, 2)], [(0,), (0, 1)], [(0, 1, 2), (0,)], [(0,), (0,)],
                     [(3,), (0, 1, 2)], [(-1,), (0, 1, 2)], [(), (0,)], [(), (0, 1, 2)], [(0,), (2, 1, 0)],
                     [(0, 0), (0, 1, 2)], [(0,), ()]):
            self.told(NotFlat, flag_value, one, flag)
        example = Sum(EXAMPLE, 2, [])
        self.told(NotFlat, flag_value, example, [(0,), (1, 2)])
        self.told(NotFlat, flag_value, example, [(0,), (0, 1, 2)])
        self.told(NotFlat, flag_value, zero_sum(EXAMPLE, 0), [()])
        self.assertEqual(flag_value(Sum(EXAMPLE, 0, [((), (5, 2))]), []), (5, 2))
        self.assertEqual(flag_value(example, [(0,), (0, 1)]), (0, 1))

    def test_example(self):
        flag = [(0,), (0, 1, 2)]
        found = [flag_value(Sum(THROUGH, 2, [(product, (1, 1))]), flag) for product in ((0, 1), (0, 2), (1, 2))]
        self.assertEqual(found, [(1, 1), (1, 1), (0, 1)])


class TestPlain(unittest.TestCase, Refusals):

    def test_plain_sums(self):
        for seed, (told, size, values) in enumerate(VALUES):
            good = allowed(told.planes, size)
            for one in (random_sum(seed, told.planes, size), zero_sum(told.planes, size)):
                told_plain = plain(one)
                self.assertEqual(told_plain.base, told.planes)
                self.assertEqual(told_plain.size, size)
                self.assertTrue(all(product in good for product, _ in told_plain.terms()))
                self.assertEqual(values.of(told_plain), values.of(one))
                self.assertEqual(plain(told_plain), told_plain)

    def test_alike_exactly_if_all_values_are_the_same(self):
        seen = set()
        for seed, (told, size, values) in enumerate(VALUES):
            one, other = (random_sum(seed + far, told.planes, size, 2, 1) for far in (0, 1000))
            for first, second in ((one, other), (one, one), (one, plain(one)), (one, one.scaled((2, 1)))):
                same = values.of(first) == values.of(second)
                self.assertIs(are_alike(first, second), same)
                seen.add(same)
        self.assertEqual(len(seen), 2)

    def test_relations_leave_it(self):
        for seed, (told, size, values) in enumerate(VALUES):
            planes = told.planes
            one = random_sum(seed, planes, size)
            for circuit in circuits(planes):
                many = size + 1 - len(circuit)
                for rest in list(combinations(range(len(planes)), many))[:5] if many >= 0 else []:
                    told_sum = relation_sum(planes, ("tied", circuit, rest))
                    self.assertFalse(any(values.of(told_sum)))
                    self.assertEqual(plain(one + told_sum.scaled((3, 2))), plain(one))
            empty = [part for part in combinations(range(len(planes)), size) if not told.meets(part)]
            for part in empty[:3]:
                told_sum = relation_sum(planes, ("empty", part[:1] + part[2:], part[1:2])) if (
                    not told.meets(part[:1] + part[2:])) else relation_sum(planes, ("empty", part, ()))
                self.assertTrue(told_sum)
                self.assertFalse(any(values.of(told_sum)))
                self.assertEqual(plain(one + told_sum.scaled((3, 2))), plain(one))

    def test_differing(self):
        for call in (are_alike, decide):
            self.told(BadNumber, call, zero_sum(THROUGH, 1), zero_sum(EXAMPLE, 1))
            self.told(BadNumber, call, zero_sum(THROUGH, 1), zero_sum(THROUGH, 2))
        self.told(BadNumber, is_answer, zero_sum(THROUGH, 1), zero_sum(EXAMPLE, 1), ("alike", []))
        self.told(BadNumber, is_answer, zero_sum(THROUGH, 1), zero_sum(THROUGH, 2), ())

    def test_twelve_planes(self):
        for size, many in ((3, 165), (4, 165)):
            one = Sum(CENTRAL, size, [(product, (k + 1, 1)) for k, product in
                                      enumerate(combinations(range(12), size))])
            told = plain(one)
            self.assertTrue(set(product for product, _ in told.terms()) <= set(allowed(CENTRAL, size)))
            self.assertTrue(are_alike(one, told))
            self.assertFalse(are_alike(one, told + Sum(CENTRAL, size, [(tuple(range(size)), (1, 9))])))
            answer = decide(one, told)
            self.assertEqual(answer[0], "alike")
            self.assertEqual(paper_sum(CENTRAL, size, answer[1]), one - told)
            for flag in flags(CENTRAL, 3)[::100] if size == 3 else []:
                self.assertEqual(flag_value(one, flag), flag_value(told, flag))
        everything = Sum(CENTRAL, 12, [(tuple(range(12)), (2, 3))])
        self.assertEqual(plain(everything), zero_sum(CENTRAL, 12))
        self.assertEqual(plain(Sum(TWELVE, 5, [((0, 1, 2, 3, 4), (1, 1))])), zero_sum(TWELVE, 5))

    def test_example(self):
        one = Sum(THROUGH, 2, [((1, 2), (1, 1))])
        self.assertEqual(plain(one).terms(), [((0, 1), (-1, 1)), ((0, 2), (1, 1))])
        rule = Sum(THROUGH, 2, [((1, 2), (1, 1)), ((0, 2), (-1, 1)), ((0, 1), (1, 1))])
        self.assertTrue(are_alike(rule, zero_sum(THROUGH, 2)))


class TestPapers(unittest.TestCase, Refusals):

    def test_paper_sum(self):
        one = paper_sum(THROUGH, 2, [((1, 2), ("tied", (0, 1, 2), ())), ((1, 2), ("tied", (0, 1, 2), ())),
                                     ((0, 1), ("tied", (0, 1, 2), ()))])
        self.assertEqual(one.text(), "2 1 0,1 -1 0,2 1 1,2")
        self.assertEqual(paper_sum(THROUGH, 7, []), zero_sum(THROUGH, 7))
        self.assertEqual(paper_sum(EXAMPLE, 3, [((5, 2), ("empty", (0, 1, 2), ()))]).text(), "3 5/2 0,1,2")
        both = paper_sum(THROUGH, 3, [((1, 1), ("tied", (0, 1, 2), (0,))), ((1, 3), ("tied", (0, 1, 2), (1,)))])
        self.assertEqual(both.text(), "3 4/3 0,1,2")

    def test_paper_errors(self):
        good = ((1, 1), ("tied", (0, 1, 2), ()))
        for size in (-1, 13, BIG):
            self.told(BadNumber, paper_sum, THROUGH, size, [((2, 4), good[1])])
        for x in NO_NUMBERS:
            self.told(NotNumber, paper_sum, THROUGH, 2, [good, (x, ("x", (9,), (9,)))])
        for relation in (("x", (0, 1, 2), ()), ("empty", (0, 1, 2), ()), ("tied", (0, 1), (2,)),
                         ("tied", (0, 1, 2), (4,))):
            self.told(NotSum, paper_sum, THROUGH, 2, [good, ((1, 1), relation), ((2, 4), good[1])])
        for size in (0, 1, 3, 12):
            self.told(BadNumber, paper_sum, THROUGH, size, [good, ((2, 4), good[1])])
        self.told(BadNumber, paper_sum, THROUGH, 2, [((0, 1), ("tied", (0, 1, 2), (0,)))])
        every = tuple(range(12))
        self.told(TooLarge, paper_sum, CENTRAL, 2, [((1, 1), ("tied", every, (0, 1)))])

    def test_decide(self):
        kinds = {"alike": 0, "apart": 0}
        for seed, (told, size, values) in enumerate(VALUES):
            planes = told.planes
            one = random_sum(seed, planes, size)
            others = [plain(one), one, random_sum(seed + 300, planes, size), zero_sum(planes, size)]
            for first, second in [(one, other) for other in others] + [(other, one) for other in others]:
                word, found = decide(first, second)
                kinds[word] += 1
                if word == "alike":
                    self.assertEqual(values.of(first), values.of(second))
                    total = zero_sum(planes, size)
                    for x, relation in found:
                        total = total + relation_sum(planes, relation).scaled(x)
                    self.assertEqual(total, first - second)
                else:
                    self.assertEqual(word, "apart")
                    at = values.flags.index(found)
                    self.assertNotEqual(values.of(first)[at], values.of(second)[at])
                self.assertIs(is_answer(first, second, (word, found)), True)
        self.assertGreater(min(kinds.values()), 100)

    def test_changed_papers(self):
        one, zero = Sum(BRAID, 3, [((3, 4, 5), (2, 3)), ((1, 2, 5), (1, 1))]), zero_sum(BRAID, 3)
        other = plain(one)
        word, paper = decide(one, other)
        self.assertEqual(word, "alike")
        self.assertTrue(paper)
        for k, (x, relation) in enumerate(paper):
            self.assertIs(is_answer(one, other, ("alike", paper[:k] + paper[k + 1:])), False)
            self.assertIs(is_answer(one, other, ("alike", paper + [(x, relation)])), False)
            changed = paper[:k] + [((x[0] + x[1], x[1]), relation)] + paper[k + 1:]
            self.assertIs(is_answer(one, other, ("alike", changed)), False)
        self.assertIs(is_answer(one, other, ("alike", list(reversed(paper)))), True)
        self.assertIs(is_answer(other, one, ("alike", paper)), False)
        self.assertIs(is_answer(one, other, ("apart", flags(BRAID, 3)[0])), False)
        self.assertIs(is_answer(one, zero, ("alike", paper)), other == zero)
        self.assertIs(is_answer(one, one, ("alike", [])), True)

    def test_flags_as_answers(self):
        one, other = Sum(THROUGH, 2, [((0, 1), (1, 1))]), Sum(THROUGH, 2, [((0, 2), (1, 1))])
        self.assertIs(is_answer(one, other, ("apart", [(0,), (0, 1, 2)])), False)
        self.assertIs(is_answer(one, other, ("apart", [(1,), (0, 1, 2)])), True)
        self.assertIs(is_answer(one, other, ("apart", [(2,), (0, 1, 2)])), True)
        self.assertIs(is_answer(one, other, ("alike", [])), False)
        for flag in ([], [(0,)], [(0,), (0, 1)], [(5,), (0, 1, 2)]):
            self.told(NotFlat, is_answer, one, other, ("apart", flag))
        self.told(NotSum, is_answer, one, other, ("alike", [((1, 1), ("tied", (0, 1), ()))]))
        self.told(NotNumber, is_answer, one, other, ("alike", [((2, 2), ("tied", (0, 1, 2), ()))]))
        self.told(BadNumber, is_answer, one, other, ("alike", [((1, 1), ("tied", (0, 1, 2), (0,)))]))

    def test_tuples_that_are_no_answers(self):
        one = zero_sum(THROUGH, 2)
        for answer in ((), ("alike",), ("alike", [], []), ("like", []), ("", []), ("apart",), ("Alike", []),
                       ("apart", [(0,), (0, 1, 2)], []), ("shown", [(0,), (0, 1, 2)])):
            self.assertIs(is_answer(one, one, answer), False)

    def test_long_integers(self):
        draw = Random(8)
        for planes, size in ((CENTRAL, 6), (TWELVE, 5)):
            # All products of these sizes are alike to 0.
            every = list(combinations(range(12), size))
            one = Sum(planes, size, [])
            while sum(len(str(abs(a))) for _, x in one.terms() for a in x) < 270:
                x = Fraction(draw.randint(-10 ** 12, 10 ** 12), draw.randint(1, 10 ** 12))
                one = one + Sum(planes, size, [(draw.choice(every), pair(x))])
            self.short_paper(one, zero_sum(planes, size))
        one = zero_sum(CENTRAL, 4)
        for k, circuit in enumerate(((3, 5, 7, 9, 11), (2, 3, 4, 7, 8), (0, 1, 9, 10, 11))):
            one = one + relation_sum(CENTRAL, ("tied", circuit, ())).scaled((10 ** 7 + k, 10 ** 8 + 1))
        self.short_paper(one, zero_sum(CENTRAL, 4))
        self.short_paper(zero_sum(CENTRAL, 4), one)
        far = 10 ** 140
        one = Sum(THROUGH, 2, [((1, 2), (far, 1))])
        other = Sum(THROUGH, 2, [((0, 2), (far, 1)), ((0, 1), (-far, 1))])
        self.assertEqual(decide(one, other), ("alike", [((far, 1), ("tied", (0, 1, 2), ()))]))

    def short_paper(self, one, other):
        self.assertLess(sum(len(str(abs(a))) for _, x in one.terms() + other.terms() for a in x), 300)
        word, paper = decide(one, other)
        self.assertEqual(word, "alike")
        self.assertTrue(paper)
        self.assertTrue(all(len(str(abs(a))) <= 400 for x, _ in paper for a in x))
        self.assertEqual(paper_sum(one.base, one.size, paper), one - other)


class TestLowered(unittest.TestCase, Refusals):

    def test_the_sum_that_is_due(self):
        for planes in (THROUGH, BRAID, CENTRAL, read_planes("2 1,0,3 0,1,2 1,1,5"), read_planes("3 0,1,0,7")):
            for size in range(1, 7):
                one = random_sum(size, planes, size)
                found = {}
                for product, x in one.terms():
                    for k in range(size):
                        part = product[:k] + product[k + 1:]
                        found[part] = found.get(part, Fraction(0)) + (-1) ** k * Fraction(*x)
                want = [(part, pair(found[part])) for part in sorted(found) if found[part]]
                self.assertEqual(lowered(one).terms(), want)
                self.assertEqual((lowered(one).size, lowered(one).base), (size - 1, planes))
                if size > 1:
                    self.assertEqual(lowered(lowered(one)), zero_sum(planes, size - 2))
                self.assertTrue(are_alike(lowered(one), lowered(plain(one))))

    def test_errors_in_their_order(self):
        self.told(BadNumber, lowered, zero_sum(EXAMPLE, 0))
        self.told(BadNumber, lowered, zero_sum(THROUGH, 0))
        self.told(NoAnswer, lowered, Sum(EXAMPLE, 2, [((0, 1), (1, 1))]))
        self.told(NoAnswer, lowered, zero_sum(EXAMPLE, 12))
        self.assertEqual(lowered(zero_sum(read_planes("3"), 1)), zero_sum(read_planes("3"), 0))
        self.assertEqual(lowered(Sum(THROUGH, 1, [((2,), (4, 3))])).terms(), [((), (4, 3))])


class TestForms(unittest.TestCase, Refusals):

    def due(self, one, point):
        planes, n = one.base.planes(), one.base.n
        form = []
        for letters in combinations(range(n), one.size):
            total = Fraction(0)
            for product, x in one.terms():
                part = Fraction(*x) * determinant_by_orders([[planes[at][k] for k in letters] for at in product])
                for at in product:
                    part /= dot(planes[at][:-1], point) - planes[at][-1]
                total += part
            form.append(pair(total))
        return form

    def test_by_determinants(self):
        point = [Fraction(7, 3), Fraction(-11, 5), Fraction(13, 7), Fraction(17, 11)]
        for seed, (told, size, values) in enumerate(VALUES):
            planes, one = told.planes, random_sum(seed, told.planes, size)
            place = point[:planes.n]
            if size > planes.n:
                self.told(BadNumber, form_at, one, pairs(*place))
                continue
            found = form_at(one, pairs(*place))
            self.assertEqual(found, self.due(one, place))
            self.assertEqual(form_at(plain(one), pairs(*place)), found)

    def test_sizes(self):
        self.assertEqual(form_at(Sum(THROUGH, 0, [((), (3, 2))]), pairs(1, 1)), [(3, 2)])
        self.assertEqual(form_at(zero_sum(THROUGH, 0), pairs(1, 1)), [(0, 1)])
        self.assertEqual(form_at(zero_sum(read_planes("4"), 2), pairs(1, 1, 1, 1)), [(0, 1)] * 6)
        self.assertEqual(len(form_at(zero_sum(read_planes("4"), 4), pairs(1, 1, 1, 1))), 1)

    def test_errors_in_their_order(self):
        for size in (3, 12):
            self.told(BadNumber, form_at, zero_sum(THROUGH, size), ())
            self.told(BadNumber, form_at, zero_sum(THROUGH, size), pairs(0, 0))
        for point in ((), pairs(1), pairs(1, 1, 1), ((1, 1), (2, 4)), ((0, 0), (1, 1))):
            self.told(NotPoint, form_at, zero_sum(THROUGH, 1), point)
        for point in (pairs(0, 5), pairs(5, 0), pairs("1/3", "-1/3")):
            self.told(NoAnswer, form_at, zero_sum(THROUGH, 2), point)
            self.told(NoAnswer, form_at, Sum(THROUGH, 0, [((), (1, 1))]), point)

    def test_alike_exactly_if_the_forms_are_the_same(self):
        one, other = Sum(THROUGH, 2, [((1, 2), (1, 1))]), Sum(THROUGH, 2, [((0, 2), (1, 1))])
        point = pairs("1/2", "3/7")
        self.assertNotEqual(form_at(one, point), form_at(other, point))
        self.assertEqual(form_at(plain(one), point), form_at(one, point))

    def test_example(self):
        found = [form_at(Sum(THROUGH, 2, [(product, (1, 1))]), pairs(1, 1)) for product in ((0, 1), (0, 2), (1, 2))]
        self.assertEqual(found, [[(1, 1)], [(1, 2)], [(-1, 2)]])


if __name__ == "__main__":
    unittest.main()

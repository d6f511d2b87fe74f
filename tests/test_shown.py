"""[260], [263], [267]: the checker of planes that are free and of sums that are alike."""

import unittest
from fractions import Fraction
from itertools import combinations, permutations
from random import Random

from planeworth import shown
from planeworth.alike import decide, flags, paper_sum, plain
from planeworth.derivations import degree_table, freedom, lawful_basis
from planeworth.errors import BadNumber, NotNumber, NotPlanes, NotSum, TooLarge
from planeworth.products import Sum, read_sum, relation_sum, zero_sum
from planeworth.shown import shows_alike, shows_bound, shows_free, shows_parted
from planeworth.texts import read_planes
from tests.helpers import (BIG, EXAMPLE, NO_NUMBERS, ORIGIN_LISTS, SMALL_LISTS, Refusals, Told, imports_of, origin_planes, pair,
                           pairs, random_sum)
from tests.test_certificates import NO_PLANES

# Lines of two directions, without the line at infinity: their tables end in the second way.
GRIDS = [read_planes("3 1,0,0,0 1,0,-1,0 1,0,-2,0 0,1,0,0 0,1,-1,0 0,1,-2,0"),
         read_planes("3 1,0,0,0 1,0,-1,0 1,0,-2,0 0,1,0,0 0,1,-1,0 0,1,-2,0 0,1,-3,0")]
FREE = [(planes, *freedom(planes)) for planes in ORIGIN_LISTS + GRIDS]
THROUGH = read_planes("2 1,0,0 0,1,0 1,1,0")
FOUR = read_planes("3 1,0,0,0 0,1,0,0 0,0,1,0 1,1,1,0")
LISTS = [planes for planes in SMALL_LISTS if len(planes) <= 5] + [THROUGH]


def free(planes, told):
    return shows_free(planes.n, planes.planes(), told)


def bound(planes, told):
    return shows_bound(planes.n, planes.planes(), told)


def alike(one, other, paper):
    return shows_alike(one.base.n, one.base.planes(), one.size, one.terms(), other.terms(), paper)


def parted(one, other, flag):
    return shows_parted(one.base.n, one.base.planes(), one.size, one.terms(), other.terms(), flag)


class TestImports(unittest.TestCase):

    def test_errors_and_certificates_alone(self):
        names = imports_of(shown)
        own = {name for name in names if name.startswith("planeworth")}
        self.assertLessEqual(own, {"planeworth.errors", "planeworth.certificates"})
        self.assertLessEqual(names - own, {"math", "itertools"})


def scaled(derivation, factor):
    return tuple(tuple((powers, factor * a) for powers, a in part) for part in derivation)


def added(one, other):
    """The sum of two derivations."""
    parts = []
    for part, more in zip(one, other):
        total = dict(part)
        for powers, a in more:
            total[powers] = total.get(powers, 0) + a
        parts.append(tuple(sorted((powers, a) for powers, a in total.items() if a)))
    return tuple(parts)


def by_letter(n, derivation, letter):
    unit = [int(k == letter) for k in range(n)]
    return tuple(tuple((tuple(k + u for k, u in zip(powers, unit)), a) for powers, a in part) for part in derivation)


class TestFreedom(unittest.TestCase, Refusals):

    def test_papers_of_freedom(self):
        seen = set()
        for planes, word, told in FREE:
            seen.add((word, planes.n))
            self.assertIs(free(planes, told), word == "free")
            self.assertIs(bound(planes, told), word == "bound")
            # The table of planes that are free ends in the third way.
            self.assertIs(bound(planes, tuple(degree_table(planes))), word == "bound")
        self.assertTrue({("free", 1), ("free", 2), ("free", 3), ("free", 4), ("bound", 3), ("bound", 4)} <= seen)

    def test_many_planes(self):
        for planes in (origin_planes(1, 2, 12, 40), origin_planes(2, 3, 7, 9), origin_planes(3, 4, 5, 9),
                       read_planes("3 1,0,0,0 0,1,0,0 0,0,1,0 1,-1,0,0 1,0,-1,0 0,1,-1,0 1,1,0,0")):
            word, told = freedom(planes)
            self.assertIs(free(planes, told), word == "free")
            self.assertIs(bound(planes, told), word == "bound")

    def test_orders_and_multiples(self):
        for planes, word, told in FREE:
            if word == "free":
                for order in permutations(told):
                    self.assertIs(free(planes, order), True)
                for factor in (-1, 2, BIG):
                    self.assertIs(free(planes, (scaled(told[0], factor),) + told[1:]), True)
                self.assertIs(free(planes, tuple(scaled(value, -3) for value in told)), True)

    def test_other_lawful_ones(self):
        for planes, word, told in FREE:
            if word != "free" or planes.n == 1 or not len(planes):
                continue
            for k, value in enumerate(told):
                rest = told[:k] + told[k + 1:]
                # One told twice, 0 for it, one multiplied by a letter: the determinant is another one.
                self.assertIs(free(planes, rest + rest[:1]), False)
                self.assertIs(free(planes, rest + (((),) * planes.n,)), False)
                self.assertIs(free(planes, rest + (by_letter(planes.n, value, 0),)), False)
                degree = max(sum(powers) for part in value for powers, _ in part)
                for other in lawful_basis(planes, degree):
                    both = added(value, other)
                    due = self.has_basis(planes, rest + (both,))
                    self.assertIs(free(planes, rest + (both,)), due)

    def has_basis(self, planes, rows):
        """Whether the determinant is Q times a number that is not 0, by its values at some points."""
        draw = Random(3)
        worths = set()
        if any(not any(value) for value in rows):
            return False
        for _ in range(4):
            point = [draw.randint(2, 99) for _ in range(planes.n)]
            table = [[sum(a * self.raised(point, powers) for powers, a in part) for part in value] for value in rows]
            top = Fraction(0)
            for order in permutations(range(planes.n)):
                wrong = sum(order[i] > order[j] for j in range(planes.n) for i in range(j))
                part = Fraction((-1) ** wrong)
                for row, place in zip(table, order):
                    part *= row[place]
                top += part
            below = Fraction(1)
            for plane in planes.planes():
                below *= sum(a * x for a, x in zip(plane, point))
            if below:
                worths.add(top / below)
        return len(worths) == 1 and 0 not in worths

    def raised(self, point, powers):
        worth = 1
        for x, k in zip(point, powers):
            worth *= x ** k
        return worth

    def test_not_lawful_ones(self):
        for planes, word, told in FREE:
            if word != "free" or not len(planes):
                continue
            for k, value in enumerate(told):
                for part_at in range(planes.n):
                    for at, (powers, a) in enumerate(value[part_at]):
                        part = value[part_at][:at] + ((powers, a + 7),) + value[part_at][at + 1:]
                        other = value[:part_at] + (part,) + value[part_at + 1:]
                        rows = told[:k] + (other,) + told[k + 1:]
                        due = self.all_lawful(planes, rows) and self.has_basis(planes, rows)
                        self.assertIs(free(planes, rows), due)

    def all_lawful(self, planes, rows):
        """Whether all derivations are combinations of the told bases."""
        for value in rows:
            degree = max(sum(powers) for part in value for powers, _ in part)
            basis = lawful_basis(planes, degree)
            left = value
            for one in basis:
                k, powers, a = next((k, powers, a) for k, part in enumerate(one) for powers, a in part)
                much = dict(left[k]).get(powers, 0)
                if much:
                    left = added(scaled(left, a), scaled(one, -much))
            if any(left):
                return False
        return True

    def test_not_lawful_with_the_right_determinant(self):
        planes = read_planes("2 1,0,0 0,1,0")
        x, y = (1, 0), (0, 1)
        self.assertIs(free(planes, ((((x, 1),), ()), ((), ((y, 1),)))), True)
        # The determinant is x y, too, but x to the power 0 by the first letter is not lawful.
        self.assertIs(free(planes, (((((0, 0), 1),), ()), ((), (((1, 1), 1),)))), False)
        # Both lawful, and the determinant is x x y.
        self.assertIs(free(planes, (((((2, 0), 1),), ()), ((), ((y, 1),)))), False)

    def test_derivations_that_are_none(self):
        planes = read_planes("2 1,0,0 0,1,0")
        x, y = ((1, 0), 1), ((0, 1), 1)
        good = (((x,), ()), ((), (y,)))
        self.assertIs(free(planes, good), True)
        wrong = [
            (), good[:1], good + good[:1], ((x,), ()), (((x,),), ((), (y,))), (((x,), (), ()), ((), (y,))),
            (((x, x), ()), ((), (y,))), (((x, y), ()), ((), (y,))), (((x, ((0, 0), 1)), ()), ((), (y,))),
            (((x,), (((2, 0), 1),)), ((), (y,))), (((((1, 0), 0),), ()), ((), (y,))), (((((1,), 1),), ()), ((), (y,))),
            (((((1, 0, 0), 1),), ()), ((), (y,))), (((((2, -1), 1),), ()), ((), (y,))), (((((1, 0), 1, 1),), ()), ((), (y,))),
            (((((1, 0),),), ()), ((), (y,))), (((x,), ()), None), (None, None), (((x,), 0), ((), (y,))), ("ab", "cd"),
            (((((7, 6), 1),), ()), ((), (y,))), ((([1, 0], 1),), ((y,),)), (([x], []), ([], [y])), list(good),
            (((((1, 0), (1, 1)),), ()), ((), (y,))), ((((1, 0), 1), ()), ((), (y,))), ((0, 0), (1, 1), (3, 1)),
        ]
        for told in wrong:
            self.assertIs(free(planes, told), False, told)
        self.assertIs(free(planes, ((((0, 1), 1), ((1, 0), 1)), good[1])), False)
        # A term with the integer 0, and powers that are no integers.
        self.assertIs(free(planes, (((x,), (((1, 0), 0),)), ((), (y,)))), False)
        self.assertIs(free(planes, (((x,), ((("1", "0"), 1),)), ((), (y,)))), False)

    def test_one_derivation_too_many(self):
        planes = read_planes("2 1,0,0")
        x, one = ((1, 0), 1), ((0, 0), 1)
        good = (((x,), ()), ((), (one,)))
        self.assertIs(free(planes, good), True)
        self.assertIs(free(planes, good + good[1:]), False)

    def test_twelve_is_the_greatest_degree(self):
        planes = origin_planes(1, 2, 12, 40)
        word, told = freedom(planes)
        self.assertEqual((word, sorted(sum(value[0][0][0]) for value in told)), ("free", [1, 11]))
        self.assertIs(free(planes, told), True)
        # 0 and 13: the determinant would have the degree 13.
        self.assertIs(free(planes, (told[0], by_letter(2, by_letter(2, told[1], 0), 0))), False)

    def test_tables(self):
        for planes, word, told in FREE:
            table = tuple(degree_table(planes))
            wrong = [(), table[:-1], table[1:], table + ((0, 0),), table + (table[-1],), list(table), table[::-1],
                     table[:-1] + ((table[-1][0] + 1, table[-1][1]),), table[:-1] + ((table[-1][0], table[-1][1] + 1),),
                     table[:-1] + ((table[-1][0], table[-1][1] - 1),), table[:-1] + (table[-1] + (0,),),
                     table[:-1] + (table[-1][:1],), table[:-1] + (7,), table[:-1] + (None,), (None,) * 3]
            wrong += [table[:k] + ((dim + 1, new),) + table[k + 1:] for k, (dim, new) in enumerate(table)]
            wrong += [table[:k] + ((dim, new + 1),) + table[k + 1:] for k, (dim, new) in enumerate(table)]
            for other in wrong:
                if other != table:
                    self.assertIs(bound(planes, other), False, (planes.planes(), other))
            self.assertIs(bound(planes, table), word == "bound")

    def test_both_ways_to_end(self):
        # Four new ones at the degree 2; and three in all whose degrees add up to more than the planes.
        ends = set()
        for planes, word, told in FREE:
            if word == "bound":
                new = [fresh for _, fresh in told]
                ends.add(sum(new) > planes.n)
                self.assertTrue(sum(new) > planes.n or sum(d * k for d, k in enumerate(new)) > len(planes))
                self.assertLessEqual(len(told), len(planes) + 1)
        self.assertEqual(ends, {True, False})
        self.assertEqual([new for _, new in freedom(GRIDS[0])[1]], [0, 1, 0, 2])
        self.assertEqual([new for _, new in freedom(GRIDS[1])[1]], [0, 1, 0, 1, 1])

    def test_tables_that_go_on_behind_a_basis(self):
        for planes in ORIGIN_LISTS:
            if planes.n == 2 and len(planes) > 1:
                table = degree_table(planes)
                more = tuple((len(lawful_basis(planes, degree)), 0) for degree in range(len(table), 9))
                for k in range(len(more) + 1):
                    self.assertIs(bound(planes, tuple(table) + more[:k]), False)

    def test_never_both(self):
        papers = [told for _, _, told in FREE]
        for planes, word, _ in FREE:
            for told in papers:
                if word == "free":
                    self.assertIs(bound(planes, told), False)
                else:
                    self.assertIs(free(planes, told), False)

    def test_no_planes(self):
        for n in (1, 2, 3, 4):
            zero = (0,) * n
            told = tuple(tuple(((zero, 1),) if i == j else () for j in range(n)) for i in range(n))
            self.assertIs(shows_free(n, [], told), True)
            self.assertIs(shows_bound(n, [], ((n, n),)), False)
            self.assertIs(shows_bound(n, [], ()), False)
            self.assertIs(shows_free(n, [], told[:-1] + (told[0],) if n > 1 else (((),),)), False)

    def test_errors_in_their_order(self):
        eight, six = origin_planes(2, 3, 8, 9).planes(), origin_planes(3, 4, 6, 9).planes()
        for call in (shows_free, shows_bound):
            for n in (0, 5, -1, BIG):
                self.told(BadNumber, call, n, [(0, 0)] * 13, (None,))
            for rows in NO_PLANES + [[(1, 0, 1)], [(1, 0, 0), (0, 1, -1)]]:
                self.told(NotPlanes, call, 2, rows, (None,))
            self.told(NotPlanes, call, 3, eight[:7] + [(1, 40, 0, 1)], (None,))
            self.told(TooLarge, call, 3, eight, (None,))
            self.told(TooLarge, call, 4, six, (None,))
            self.assertIs(call(3, eight[:7], (None,)), False)
            self.assertIs(call(4, six[:5], (None,)), False)
            self.assertIs(call(2, origin_planes(1, 2, 12, 40).planes(), (None,)), False)


def relations(planes, size):
    """All relations of a size with a rest of at most two indexes."""
    told = Told(planes)
    found = []
    indexes = range(len(planes))
    for many in range(size + 2):
        for product in combinations(indexes, many):
            kind = "empty" if not told.meets(product) else "tied" if told.rank(product) < many else None
            rest = size - many + (kind == "tied")
            if kind and 0 <= rest <= 2:
                found += [(kind, product, part) for part in combinations(indexes, rest)]
    return found


def spoilt_relations(kind, product, rest):
    """Relations that are none, or others."""
    other = "empty" if kind == "tied" else "tied"
    return [(other, product, rest), ("Tied", product, rest), ("", product, rest), (kind, product[::-1], rest),
            (kind, product[1:], rest), (kind, product, rest + (77,)), (kind, product, (-1,)), (kind, product, (1, 0)),
            (kind, product, rest + rest[-1:] or (0, 0)), (kind, product + (99,), rest), (kind, product), (kind,), (),
            (kind, product, rest, ()), (kind, ("0",), rest), (kind, product, ("0", "1")), (kind, product, None), (kind, None, rest), (kind, list(product), rest), None]


class TestSums(unittest.TestCase, Refusals):

    def sums(self):
        for planes in LISTS:
            for size in range(min(len(planes), planes.n) + 2):
                for seed in range(3):
                    one = random_sum(seed, planes, size)
                    yield one, random_sum(seed + 9, planes, size)
                    yield one, plain(one)

    def test_answers_of_decide(self):
        seen = set()
        for one, other in self.sums():
            word, told = decide(one, other)
            seen.add((word, one.size))
            if word == "alike":
                self.assertIs(alike(one, other, told), True)
                self.assertIs(alike(one, other, told[::-1]), True)
                for flag in flags(one.base, one.size)[:9]:
                    self.assertIs(parted(one, other, flag), False)
            else:
                self.assertIs(parted(one, other, told), True)
                self.assertIs(alike(one, other, []), False)
        self.assertTrue({("alike", 2), ("apart", 2), ("alike", 3), ("apart", 3), ("alike", 0), ("apart", 0)} <= seen)

    def test_any_papers(self):
        draw = Random(5)
        for planes in LISTS:
            for size in range(1, min(len(planes), planes.n + 1) + 1):
                every = relations(planes, size)
                if not every:
                    continue
                paper = [(pair(Fraction(draw.randint(-5, 5), draw.randint(1, 4))), draw.choice(every)) for _ in range(4)]
                one = random_sum(size, planes, size)
                other = one - paper_sum(planes, size, paper)
                self.assertIs(alike(one, other, paper), True)
                self.assertIs(alike(other, one, paper), one == other)
                third = Sum(planes, size, [(tuple(range(size)), (1, 7))])
                self.assertIs(alike(one + third, other, paper), False)
                self.assertIs(alike(one, other + third, paper), False)
                self.spoilt(one, other, paper)

    def spoilt(self, one, other, paper):
        """Each entry left out, put in again, changed."""
        planes, size = one.base, one.size
        for at, (x, relation) in enumerate(paper):
            counts = bool(x[0]) and len(relation_sum(planes, relation)) > 0
            self.assertIs(alike(one, other, paper[:at] + paper[at + 1:]), not counts)
            self.assertIs(alike(one, other, paper + [paper[at]]), not counts)
            changed = paper[:at] + [((x[0] + x[1], x[1]), relation)] + paper[at + 1:]
            self.assertIs(alike(one, other, changed), len(relation_sum(planes, relation)) == 0)
            for y in NO_NUMBERS + [1, (1,), (1, 1, 1), None]:
                self.assertIs(alike(one, other, paper + [(y, relation)]), False)
            for bad in spoilt_relations(*relation):
                if not self.is_relation(planes, size, bad):
                    self.assertIs(alike(one, other, paper + [((0, 1), bad)]), False, bad)
            for entry in ((x,), (x, relation, 1), (), [x, relation], None):
                self.assertIs(alike(one, other, paper + [entry]), False)
        for wrong in (tuple(paper), None, "", 0):
            self.assertIs(alike(one, other, wrong), False)

    def is_relation(self, planes, size, told):
        try:
            return relation_sum(planes, told).size == size
        except (NotSum, TooLarge, TypeError, ValueError):
            return False

    def test_relations_of_another_size(self):
        one = zero_sum(THROUGH, 2)
        self.assertIs(alike(one, one, [((0, 1), ("tied", (0, 1, 2), ()))]), True)
        self.assertIs(alike(one, one, [((0, 1), ("tied", (0, 1, 2), (0,)))]), False)
        # With an index of its own the rest leads to 0, but not with the rule for an empty product.
        three = zero_sum(THROUGH, 3)
        told = relation_sum(THROUGH, ("tied", (0, 1, 2), (1,)))
        self.assertEqual(told.terms(), [((0, 1, 2), (1, 1))])
        self.assertIs(alike(told, three, [((1, 1), ("tied", (0, 1, 2), (1,)))]), True)
        self.assertIs(alike(three, told, [((-1, 1), ("tied", (0, 1, 2), (1,)))]), True)
        parallel = read_planes("2 1,0,0 1,0,1 0,1,0")
        sum_of = relation_sum(parallel, ("empty", (0, 1), (2,)))
        self.assertEqual(sum_of.terms(), [((0, 1, 2), (1, 1))])
        self.assertIs(alike(sum_of, zero_sum(parallel, 3), [((1, 1), ("empty", (0, 1), (2,)))]), True)
        self.assertIs(alike(zero_sum(parallel, 3), zero_sum(parallel, 3), [((1, 1), ("empty", (0, 1), (1,)))]), True)
        self.assertIs(alike(zero_sum(parallel, 3), zero_sum(parallel, 3), [((1, 1), ("empty", (0, 1), ()))]), False)
        self.assertIs(alike(zero_sum(parallel, 2), zero_sum(parallel, 2), [((1, 1), ("tied", (0, 1), (2,)))]), False)

    def test_kinds_of_relations(self):
        # In each of these the size is right; 0 and 1 are parallel, 0, 2 and 3 have a line in common.
        planes = read_planes("3 1,0,0,0 1,0,0,1 0,1,0,0 1,1,0,0 0,0,1,0")
        for size, relation, due in (
                (2, ("empty", (0, 1), ()), True), (3, ("empty", (0, 1), (4,)), True), (2, ("tied", (0, 2, 3), ()), True),
                (3, ("tied", (0, 2, 3), (4,)), True), (3, ("empty", (0, 2, 3), ()), False), (1, ("tied", (0, 1), ()), False),
                (2, ("tied", (0, 1), (4,)), False), (2, ("tied", (0, 1, 2), ()), False), (1, ("tied", (0, 2), ()), False),
                (2, ("tied", (0, 2, 4), ()), False), (2, ("empty", (0, 2), ()), False), (0, ("empty", (), ()), False),
                (2, ("Empty", (0, 1), ()), False), (3, ("Tied", (0, 2, 3), ()), False), (2, ("", (0, 1), ()), False),
                (3, ("shown", (0, 2, 3), ()), False), (4, ("tied", (0, 2, 3), (1, 4)), True), (4, ("tied", (0, 1, 2, 3, 4), ()), False),
                (5, ("empty", (0, 1, 2, 3, 4), ()), True)):
            self.assertIs(self.is_relation(planes, size, relation), due)
            one = zero_sum(planes, size)
            self.assertIs(alike(one, one, [((0, 1), relation)]), due)
            self.assertIs(alike(relation_sum(planes, relation) if due else one, one, [((1, 1), relation)]), due)

    def test_flags_of_planes_that_do_not_meet(self):
        planes = read_planes("2 1,0,0 1,0,1 0,1,0")
        one = read_sum(planes, "2 1 0,1")
        self.assertIs(parted(one, zero_sum(planes, 2), [(0,), (0, 1)]), False)
        self.assertIs(parted(read_sum(planes, "2 1 0,2"), zero_sum(planes, 2), [(0,), (0, 2)]), True)

    def test_any_flags(self):
        draw = Random(6)
        for planes in LISTS:
            told = Told(planes)
            for size in range(min(len(planes), planes.n) + 1):
                one, other = random_sum(size, planes, size), random_sum(size + 3, planes, size)
                for flag in flags(planes, size)[:12]:
                    due = self.value(told, one, flag) != self.value(told, other, flag)
                    self.assertIs(parted(one, other, flag), due)
                    self.spoilt_flag(told, one, other, flag, draw)

    def value(self, told, one, flag):
        """The value of a sum at a flag, over all orders."""
        total = Fraction(0)
        for product, x in one.terms():
            for order in permutations(range(len(product))):
                made = [product[k] for k in order]
                if all(told.meets(made[:k + 1]) and told.flat(made[:k + 1]) == flat for k, flat in enumerate(flag)):
                    wrong = sum(order[i] > order[j] for j in range(len(order)) for i in range(j))
                    total += Fraction(*x) * (-1) ** wrong
        return total

    def spoilt_flag(self, told, one, other, flag, draw):
        wrong = [flag[:-1], flag[1:], flag + [()], flag + flag[-1:], [()] + flag, tuple(flag)]
        wrong += [flag[::-1]] if len(flag) > 1 else []
        for k, flat in enumerate(flag):
            for change in (flat[:-1], flat[::-1], flat + (99,), (-1,) + flat, flat + flat[-1:], (0, 1, 2, 3, 4), list(flat), None, ("0",),
                           draw.choice(told.web())):
                wrong.append(flag[:k] + [change] + flag[k + 1:])
        every = flags(one.base, one.size)
        for told_flag in wrong:
            if told_flag not in every:
                self.assertIs(parted(one, other, told_flag), False, told_flag)

    def test_flats_that_are_not_within(self):
        one = read_sum(EXAMPLE, "2 1 0,1")
        other = zero_sum(EXAMPLE, 2)
        self.assertIs(parted(one, other, [(0,), (0, 1)]), True)
        self.assertIs(parted(one, other, [(2,), (0, 1)]), False)
        self.assertIs(parted(one, other, [(0,), (1, 2)]), False)
        self.assertIs(parted(one, other, [(0, 1), (0, 1)]), False)
        self.assertIs(parted(one, other, [(0,), (0, 1, 2)]), False)

    def test_flats_must_be_whole(self):
        one = read_sum(THROUGH, "2 1 0,1")
        self.assertIs(parted(one, zero_sum(THROUGH, 2), [(0,), (0, 1, 2)]), True)
        self.assertIs(parted(one, zero_sum(THROUGH, 2), [(0,), (0, 1)]), False)

    def test_papers_and_flags_for_one_another(self):
        one, other = read_sum(THROUGH, "2 1 1,2"), read_sum(THROUGH, "2 -1 0,1 1 0,2")
        word, paper = decide(one, other)
        self.assertEqual(word, "alike")
        flag = flags(THROUGH, 2)[0]
        self.assertIs(parted(one, other, paper), False)
        self.assertIs(alike(one, other, flag), False)
        self.assertIs(alike(one, zero_sum(THROUGH, 2), flag), False)
        self.assertIs(parted(one, zero_sum(THROUGH, 2), paper), False)

    def test_terms_in_any_order(self):
        rows = THROUGH.planes()
        paper = [((1, 1), ("tied", (0, 1, 2), ()))]
        terms = [((1, 2), (1, 1)), ((0, 2), (-1, 1)), ((0, 1), (1, 1))]
        for order in permutations(terms):
            self.assertIs(shows_alike(2, rows, 2, list(order), [], paper), True)
        twice = [((0, 2), (-1, 3)), ((1, 2), (1, 2)), ((0, 2), (-2, 3)), ((1, 2), (1, 2)), ((0, 1), (1, 1)), ((0, 1), (0, 1))]
        self.assertIs(shows_alike(2, rows, 2, twice, [], paper), True)
        self.assertIs(shows_alike(2, rows, 2, twice + [((0, 1), (5, 1))], [((0, 1), (5, 1))], paper), True)
        self.assertIs(shows_alike(2, rows, 2, twice + [((0, 1), (5, 1))], [((0, 1), (4, 1))], paper), False)
        self.assertIs(shows_alike(2, rows, 2, [((0, 1), (0, 1))], [((1, 2), (0, 1))], []), True)
        flag = [(0,), (0, 1, 2)]
        self.assertIs(shows_parted(2, rows, 2, [((0, 1), (1, 2)), ((0, 2), (1, 2))], [], flag), True)
        self.assertIs(shows_parted(2, rows, 2, [((0, 1), (1, 2)), ((0, 2), (1, 2))], [((0, 1), (1, 1))], flag), False)
        self.assertIs(shows_parted(2, rows, 2, [((0, 1), (1, 2)), ((0, 1), (-1, 2))], [], flag), False)

    def test_size_0(self):
        rows = EXAMPLE.planes()
        self.assertIs(shows_alike(2, rows, 0, [((), (1, 2)), ((), (1, 2))], [((), (1, 1))], []), True)
        self.assertIs(shows_parted(2, rows, 0, [((), (1, 2))], [((), (1, 1))], []), True)
        self.assertIs(shows_parted(2, rows, 0, [((), (1, 2))], [((), (1, 2))], []), False)
        self.assertIs(shows_alike(2, rows, 0, [((), (1, 2))], [((), (1, 1))], []), False)

    def test_no_planes(self):
        self.assertIs(shows_alike(3, [], 0, [((), (1, 2))], [((), (1, 2))], []), True)
        self.assertIs(shows_parted(3, [], 0, [((), (1, 2))], [], []), True)
        self.assertIs(shows_alike(3, [], 12, [], [], []), True)
        self.assertIs(shows_parted(3, [], 1, [], [], [()]), False)
        self.told(NotSum, shows_alike, 3, [], 1, [((0,), (1, 1))], [], [])

    def test_large_numbers(self):
        rows = THROUGH.planes()
        x = (10 ** 500, 10 ** 500 + 1)
        paper = [(x, ("tied", (0, 1, 2), ()))]
        terms = [((1, 2), x), ((0, 2), (-x[0], x[1])), ((0, 1), x)]
        self.assertIs(shows_alike(2, rows, 2, terms, [], paper), True)
        self.assertIs(shows_alike(2, rows, 2, terms[:2], [((0, 1), (x[0] - 1, x[1]))], paper), False)
        self.assertIs(shows_parted(2, rows, 2, terms[2:], [((0, 1), (1, 1))], [(0,), (0, 1, 2)]), True)

    def test_errors_in_their_order(self):
        rows = EXAMPLE.planes()
        bad_sum, bad_number = [((0, 5), (2, 4))], [((0, 1), (2, 4))]
        for call in (shows_alike, shows_parted):
            for n in (0, 5, -1, BIG):
                self.told(BadNumber, call, n, [(0, 0)], 77, bad_sum, bad_sum, None)
            for wrong in NO_PLANES:
                self.told(NotPlanes, call, 2, wrong, 77, bad_sum, bad_sum, None)
            for size in (-1, 13, BIG):
                self.told(BadNumber, call, 2, rows, size, bad_sum, bad_sum, None)
            for size in (0, 12):
                self.assertIs(call(2, rows, size, [], [], None), False)
            for product in ((), (0,), (0, 1, 2), (1, 0), (0, 0), (0, 3), (-1, 0), (0, BIG), ("0", "1")):
                self.told(NotSum, call, 2, rows, 2, [((0, 1), (1, 1)), (product, (2, 4))], bad_number, None)
                self.told(NotSum, call, 2, rows, 2, [((0, 1), (1, 1))], [(product, (2, 4))] + bad_number, None)
            for x in NO_NUMBERS:
                self.told(NotNumber, call, 2, rows, 2, [((0, 1), (1, 1)), ((0, 2), x), ((0,), (1, 1))], bad_sum, None)
                self.told(NotNumber, call, 2, rows, 2, [], [((0, 2), x), ((0,), (1, 1))], None)
            self.told(NotSum, call, 2, rows, 2, bad_sum, bad_number, None)
            self.told(NotNumber, call, 2, rows, 2, bad_number, bad_sum, None)

    def test_never_both(self):
        for one, other in self.sums():
            paper = decide(one, plain(one))[1]
            every = flags(one.base, one.size)[:6]
            if alike(one, other, paper):
                self.assertFalse(any(parted(one, other, flag) for flag in every))


if __name__ == "__main__":
    unittest.main()

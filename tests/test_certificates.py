"""[260] to [262], [264], [265]: the checker of rows, shares and comparisons."""

import unittest
from fractions import Fraction
from itertools import combinations, permutations, product
from math import gcd
from random import Random

from planeworth import certificates
from planeworth.bodies import corners, greatest, is_strokes, placed
from planeworth.certificates import (comparisons_cancel, faces_told, refuses_row, shows_in, shows_out, shows_row,
                                     tells_all)
from planeworth.determinants import signs_of
from planeworth.errors import BadNumber, NoAnswer, NotPlanes, NotSigns, NotStrokes
from planeworth.planes import row_of
from planeworth.rooms import faces
from planeworth.sides import decide_row, refusing_ties
from planeworth.texts import read_planes
from tests.helpers import (BIG, EXAMPLE, NO_NUMBERS, SMALL_LISTS, Refusals, all_rows, combination_refuses, dot,
                           imports_of, origin_planes, pair, pairs, point_shows, random_planes)

LISTS = [planes for planes in SMALL_LISTS if len(planes) <= 4] + [random_planes(3, 2, 4, 2), random_planes(5, 3, 4, 1)]
TWO = read_planes("1 1,0 1,1")

# Each is no list of planes for two letters.
NO_PLANES = [
    [(1, 0, 0), (0, 0, 1)], [(2, 0, 2)], [(0, 0, 0)], [(1, 0)], [(1, 0, 0, 0)], [()], [(1, 0, 1001)], [(-1001, 1, 0)],
    [(1, 0, 0), (0, 1, 0), (1, 0, 0)], [(1, 0, 2), (-1, 0, -2)], [(BIG, 1, 0)], [(1, k, 0) for k in range(13)],
    [("1", 0, 0)], [[1, 0, 0]], ["abc"], [None],
]


def papers_of(planes, part=""):
    """Papers for all rows, by what the other modules find; a refused head stops the search."""
    if len(part) < len(planes):
        first = planes.only(tuple(range(len(part))))
        word, told = decide_row(first, part)
        if word == "refused":
            return [(part, (word, told))]
        return [paper for letter in "+-0" for paper in papers_of(planes, part + letter)]
    return [(part, decide_row(planes, part))]


class TestImports(unittest.TestCase):

    def test_errors_and_shown_alone(self):
        names = imports_of(certificates)
        own = {name for name in names if name.startswith("planeworth")}
        self.assertLessEqual(own, {"planeworth.errors", "planeworth.shown"})
        self.assertLessEqual(names - own, {"math", "itertools"})


class TestRows(unittest.TestCase, Refusals):

    def test_right_papers(self):
        for planes in LISTS:
            n, rows = planes.n, planes.planes()
            for row in all_rows(len(planes)):
                word, told = decide_row(planes, row)
                if word == "shown":
                    self.assertIs(shows_row(n, rows, row, told), True)
                else:
                    self.assertIs(refuses_row(n, rows, row, told), True)
                    for indexes, factors in refusing_ties(planes, row):
                        combination = [(0, 1)] * len(rows)
                        for at, a in zip(indexes, factors):
                            combination[at] = (a, 1)
                        self.assertIs(refuses_row(n, rows, row, tuple(combination)), True)

    def test_any_points_and_combinations(self):
        draw = Random(11)
        kinds = pairs(-2, -1, 0, 0, 1, 1, 2, "1/2", "-1/2")
        seen = set()
        for planes in LISTS:
            n, rows = planes.n, planes.planes()
            for _ in range(60):
                row = "".join(draw.choice("+-0") for _ in rows)
                point = tuple(draw.choice(kinds) for _ in range(n))
                combination = tuple(draw.choice(kinds) for _ in rows)
                due = combination_refuses(planes, row, combination)
                seen.add(due)
                self.assertIs(refuses_row(n, rows, row, combination), due)
                self.assertIs(shows_row(n, rows, row, point), point_shows(planes, row, point))
                self.assertIs(shows_row(n, rows, row_of(planes, point), point), True)
        self.assertEqual(seen, {True, False})

    def test_each_condition_of_a_combination(self):
        rows = TWO.planes()
        for row in ("-+", "0+", "-0", "00"):
            self.assertIs(refuses_row(1, rows, row, pairs(-1, 1)), True)
            self.assertIs(refuses_row(1, rows, row, pairs("-1/7", "1/7")), True)
        for row in ("--", "0-", "+-", "+0", "++"):
            self.assertIs(refuses_row(1, rows, row, pairs(-1, 1)), False)
            self.assertIs(refuses_row(1, rows, row, pairs(1, -1)), False)
        # The sum for b below 0, that for the letter not 0, and nothing but numbers 0.
        self.assertIs(refuses_row(1, rows, "00", pairs(1, -1)), False)
        self.assertIs(refuses_row(1, rows, "00", pairs(0, 1)), False)
        self.assertIs(refuses_row(1, rows, "+-", pairs(0, 0)), False)
        # A sum 0 for b: it must not be 0 at some plane with + or -.
        through = [(1, 0, 0), (0, 1, 0), (1, 1, 0)]
        self.assertIs(refuses_row(2, through, "00+", pairs(-1, -1, 1)), True)
        self.assertIs(refuses_row(2, through, "000", pairs(-1, -1, 1)), False)
        self.assertIs(refuses_row(2, through, "+0-", pairs(1, 1, -1)), True)
        self.assertIs(refuses_row(2, through, "+0+", pairs(1, 1, -1)), False)

    def test_spoilt_points_and_combinations(self):
        n, rows = 2, EXAMPLE.planes()
        point, combination = pairs("1/2", "1/3"), pairs(-1, -1, 1)
        self.assertIs(shows_row(n, rows, "++-", point), True)
        self.assertIs(refuses_row(n, rows, "--+", combination), True)
        for row in ("", "++", "++-+", "++x", "++ ", "--", "--+0", "xxx"):
            self.assertIs(shows_row(n, rows, row, point), False)
            self.assertIs(refuses_row(n, rows, row, combination), False)
        for bad in ((), point[:1], point + ((0, 1),), *[(point[0], x) for x in NO_NUMBERS]):
            self.assertIs(shows_row(n, rows, "++-", bad), False)
        for bad in ((), combination[:2], combination + ((0, 1),), *[combination[:2] + (x,) for x in NO_NUMBERS]):
            self.assertIs(refuses_row(n, rows, "--+", bad), False)
        self.assertIs(shows_row(n, rows, "++-", ((2, 4), (2, 6))), False)
        self.assertIs(refuses_row(n, rows, "--+", ((-2, 2), (-2, 2), (2, 2))), False)
        for other in ((1, 2), ("1", "2"), (None, None), "ab", [(1, 2), (1, 3)], ((1, 2), [1, 3]), ((1, 2), (1,)),
                      ((1, 2), (1, 3, 1)), ((1, 2), ("1", 3)), ((1, 2), (1, "3")), ((1, 2), ((1, 1), 3))):
            self.assertIs(shows_row(n, rows, "++-", other), False)
            self.assertIs(refuses_row(n, rows, "--+", (other[0], *other) if len(other) < 3 else other), False)
        self.assertIs(refuses_row(n, rows, "--+", list(combination)), False)
        self.assertIs(refuses_row(n, rows, ("-", "-", "+"), combination), False)
        self.assertIs(shows_row(n, rows, ("+", "+", "-"), point), False)

    def test_large_integers(self):
        x = 10 ** 500
        self.assertIs(shows_row(2, EXAMPLE.planes(), "++-", ((1, x), (1, x + 1))), True)
        self.assertIs(shows_row(2, EXAMPLE.planes(), "+++", ((x, x + 1), (1, x))), True)
        self.assertIs(shows_row(2, EXAMPLE.planes(), "+++", ((x, x + 1), (1, x + 2))), False)

    def test_no_planes(self):
        for n in (1, 4):
            self.assertIs(shows_row(n, [], "", pairs(*[7] * n)), True)
            self.assertIs(shows_row(n, [], "+", pairs(*[7] * n)), False)
            self.assertIs(shows_row(n, [], "", ()), False)
            self.assertIs(refuses_row(n, [], "", ()), False)

    def test_errors_in_their_order(self):
        calls = [(shows_row, ("+", ((2, 4),))), (refuses_row, ("+", ((2, 4),))), (tells_all, ([],)), (faces_told, ([],))]
        for call, behind in calls:
            for n in (0, 5, -1, BIG):
                self.told(BadNumber, call, n, [(0, 0)], *behind)
                self.told(BadNumber, call, n, [], *behind)
            for rows in NO_PLANES:
                self.told(NotPlanes, call, 2, rows, *behind)
        for n in (1, 2, 3, 4):
            self.assertIs(shows_row(n, [(1000,) * (n - 1) + (999, -1000)], "+", pairs(*[0] * n)), True)


class TestPapers(unittest.TestCase, Refusals):

    def both(self, planes, papers, due):
        self.assertIs(tells_all(planes.n, planes.planes(), papers), due)
        if due:
            found = faces_told(planes.n, planes.planes(), papers)
            self.assertEqual(found, faces(planes))
            found.clear()
            self.assertEqual(faces_told(planes.n, planes.planes(), papers), faces(planes))
        else:
            self.told(NoAnswer, faces_told, planes.n, planes.planes(), papers)

    def test_right_papers(self):
        draw = Random(4)
        for planes in LISTS:
            papers = papers_of(planes)
            self.both(planes, papers, True)
            every = [(row, decide_row(planes, row)) for row in all_rows(len(planes))]
            self.both(planes, every, True)
            mixed = papers + every
            draw.shuffle(mixed)
            self.both(planes, mixed, True)
            self.both(planes, papers[::-1], True)
            self.both(planes, papers + papers, True)

    def test_a_head_that_lacks(self):
        for planes in LISTS:
            papers = papers_of(planes)
            for at in range(len(papers)):
                self.both(planes, papers[:at] + papers[at + 1:], False)
            self.both(planes, [], False)

    def test_a_longer_head_in_the_place_of_a_shorter_one(self):
        planes = EXAMPLE
        shorter = [paper for paper in papers_of(TWO) if len(paper[0]) == 2]
        self.assertEqual(sorted(head for head, _ in shorter), sorted(all_rows(2)))
        parallel = read_planes("2 1,0,0 1,0,1 0,1,0")
        papers = papers_of(parallel)
        refused = [(head, told) for head, told in papers if told[0] == "refused"]
        self.assertEqual({len(head) for head, _ in refused}, {2})
        head, (word, combination) = refused[0]
        longer = [(head + letter, (word, combination + ((0, 1),))) for letter in "+-0"]
        rest = [paper for paper in papers if paper[0] != head]
        self.both(parallel, rest + longer, True)
        for at in range(3):
            self.both(parallel, rest + longer[:at] + longer[at + 1:], False)
        self.both(planes, papers, False)

    def test_spoilt_papers(self):
        for planes in (EXAMPLE, TWO, read_planes("3 1,0,0,0 0,1,0,0 0,0,1,0 1,1,1,0")):
            papers = papers_of(planes)
            for at, (head, (word, told)) in list(enumerate(papers))[::1 if len(planes) < 4 else 5]:
                spoilt = [
                    (head + "+", (word, told)), (head[:-1], (word, told)), (head[:-1] + "x", (word, told)),
                    ("x" + head[1:], (word, told)), (head, (word, told + ((0, 1),))), (head, (word, told[:-1])),
                    (head, (word, ((2, 4),) + told[1:])), (head, (word, ())), (head, ("Shown", told)), (head, ("", told)),
                    (head, ("hold", told)), (head, ("refused" if word == "shown" else "shown", told)),
                    (head, (word, tuple((-a, b) for a, b in told[:1]) + told[1:] if told[0][0] else ())),
                    (head, (word, tuple((a * 2, b * 2) for a, b in told))), (head, (word, told, 1)), (head, (word,)),
                ]
                for paper in spoilt:
                    changed = papers[:at] + [paper] + papers[at + 1:]
                    self.assertIs(tells_all(planes.n, planes.planes(), changed), self.right(planes, changed), paper)
                    # All pairs must be right, also one that is not needed.
                    if not self.right_paper(planes, paper):
                        self.both(planes, papers + [paper], False)

    def right_paper(self, planes, paper):
        """Whether a paper is right, by [262]."""
        head, told = paper
        if set(head) - set("+-0") or len(told) != 2 or any(b < 1 or gcd(a, b) != 1 for a, b in told[1]):
            return False
        if told[0] == "shown":
            return len(head) == len(planes) and point_shows(planes, head, told[1])
        if told[0] != "refused" or len(head) > len(planes):
            return False
        return combination_refuses(planes.only(tuple(range(len(head)))), head, told[1])

    def right(self, planes, papers):
        """Whether papers tell all rows, looked at row by row."""
        shown = [head for head, told in papers if told[0] == "shown"]
        refused = [head for head, told in papers if told[0] == "refused"]
        return all(self.right_paper(planes, paper) for paper in papers) and all(
            row in shown or any(row.startswith(head) for head in refused) for row in all_rows(len(planes)))

    def test_other_kinds_of_papers(self):
        papers = papers_of(TWO)
        for paper in ((), ("++",), ("++", "shown"), ("++", ("shown",)), ("++", ()), (1, ("shown", pairs(2))), ("++", 3),
                      ["++", ("shown", pairs(2))], ("++", ["shown", pairs(2)]), (("+", "+"), ("shown", pairs(2)))):
            self.assertIs(tells_all(1, TWO.planes(), papers + [paper]), False)

    def test_a_shown_head_must_be_whole(self):
        papers = papers_of(TWO)
        self.assertIs(tells_all(1, TWO.planes(), papers + [("+", ("shown", pairs(5)))]), False)
        self.assertIs(tells_all(1, TWO.planes(), papers + [("", ("shown", pairs(5)))]), False)
        self.assertIs(tells_all(1, TWO.planes(), papers + [("", ("refused", ()))]), False)

    def test_no_planes(self):
        for n in (1, 4):
            planes = read_planes(str(n))
            self.both(planes, [("", ("shown", pairs(*range(n))))], True)
            self.both(planes, [], False)
            self.both(planes, [("", ("refused", ()))], False)

    def test_twelve_planes_and_few_papers(self):
        planes = random_planes(60, 4, 12, 1000)
        point = pairs(3, 1, 4, 1)
        self.both(planes, [(row_of(planes, point), ("shown", point))], False)
        self.both(planes, [], False)

    def test_example(self):
        papers = papers_of(TWO)
        self.assertEqual([head for head, _ in papers], ["++", "+-", "+0", "-+", "--", "-0", "0+", "0-", "00"])
        self.assertEqual(faces_told(1, TWO.planes(), papers), ["++", "+-", "+0", "--", "0-"])


STROKES = [
    (1, []), (1, [(3,), (-2,), (3,)]), (2, [(1, 0), (0, 1), (1, 1)]), (2, [(2, 1), (4, 2)]), (2, []),
    (3, [(1, 0, 0), (0, 1, 0), (0, 0, 1), (1, 1, 1)]), (3, [(1, 2, 3), (-1, 0, 2)]), (4, [(1, 1, 0, 0), (0, 1, -1, 2)]),
]


class TestShares(unittest.TestCase, Refusals):

    def test_answers_of_the_search(self):
        draw = Random(5)
        seen = set()
        for n, strokes in STROKES:
            points = [tuple((x, 1) for x in corner) for corner in corners(n, strokes)]
            for _ in range(12):
                shares = [Fraction(draw.randint(-1, 5), 4) for _ in strokes]
                points.append(tuple(pair(dot(shares, [stroke[k] for stroke in strokes]) if strokes else 0)
                                    for k in range(n)))
            points.append(pairs(*[Fraction(draw.randint(-3, 9), draw.randint(1, 3)) for _ in range(n)]))
            for point in points:
                word, told = placed(n, strokes, point)
                seen.add(word)
                self.assertIs((shows_in if word == "in" else shows_out)(n, strokes, point, told), True)
                self.assertIs((shows_out if word == "in" else shows_in)(n, strokes, point, told), False)
        self.assertEqual(seen, {"in", "out"})

    def test_any_shares(self):
        draw = Random(6)
        seen = set()
        for n, strokes in STROKES:
            for _ in range(40):
                shares = [Fraction(draw.randint(-1, 5), 4) for _ in strokes]
                place = [dot(shares, [stroke[k] for stroke in strokes]) if strokes else Fraction(0) for k in range(n)]
                due = all(0 <= x <= 1 for x in shares)
                seen.add(due)
                self.assertIs(shows_in(n, strokes, pairs(*place), pairs(*shares)), due)
                place[draw.randrange(n)] += draw.choice((1, -1, Fraction(1, 9)))
                self.assertIs(shows_in(n, strokes, pairs(*place), pairs(*shares)), False)
        self.assertEqual(seen, {True, False})

    def test_spoilt_shares(self):
        n, strokes = STROKES[2]
        self.assertIs(shows_in(n, strokes, pairs(1, 1), pairs(0, 0, 1)), True)
        self.assertIs(shows_in(n, strokes, pairs(1, 1), pairs(1, 1, 0)), True)
        for shares in ((), pairs(0, 0), pairs(0, 0, 1, 0), pairs(0, 0, 1, 1), ((0, 1), (0, 2), (1, 1)),
                       pairs(-1, -1, 2), pairs("3/2", "3/2", "-1/2"), *[pairs(0, 0) + (x,) for x in NO_NUMBERS], (0, 0, 1)):
            self.assertIs(shows_in(n, strokes, pairs(1, 1), shares), False)
        for point in ((), pairs(1), pairs(1, 1, 0), ((2, 2), (1, 1)), *[((1, 1), x) for x in NO_NUMBERS], (1, 1)):
            self.assertIs(shows_in(n, strokes, point, pairs(0, 0, 1)), False)
            self.assertIs(shows_out(n, strokes, point, (9, 9)), False)

    def test_any_directions(self):
        draw = Random(7)
        seen = set()
        for n, strokes in STROKES:
            for _ in range(40):
                point = [Fraction(draw.randint(-9, 9), draw.randint(1, 4)) for _ in range(n)]
                direction = tuple(draw.randint(-3, 3) for _ in range(n))
                due = dot(direction, point) > greatest(n, strokes, direction)
                seen.add(due)
                self.assertIs(shows_out(n, strokes, pairs(*point), direction), due)
        self.assertEqual(seen, {True, False})

    def test_corners_and_the_edge(self):
        n, strokes = STROKES[2]
        for corner in corners(n, strokes):
            for direction in product(range(-2, 3), repeat=2):
                self.assertIs(shows_out(n, strokes, pairs(*corner), direction), False)
        self.assertIs(shows_out(n, strokes, pairs(2, "3/2"), (1, 0)), False)
        self.assertIs(shows_out(n, strokes, pairs("2000001/1000000", "3/2"), (1, 0)), True)
        self.assertIs(shows_out(n, strokes, pairs("3/2", "1/2"), (1, -1)), False)
        self.assertIs(shows_out(n, strokes, pairs("3/2", "49/100"), (1, -1)), True)
        self.assertIs(shows_out(n, strokes, pairs("3/2", "49/100"), (BIG, -BIG)), True)

    def test_other_directions(self):
        n, strokes = STROKES[2]
        for direction in ((), (1,), (1, 0, 0), (0, 0), ((1, 1), (0, 1)), ((1, 2), (0, 1)), [1, 0]):
            self.assertIs(shows_out(n, strokes, pairs(5, 0), direction), False)
        self.assertIs(shows_out(n, strokes, pairs(5, 0), (1, 0)), True)
        self.assertIs(shows_out(2, [], pairs(0, 0), (1, 0)), False)
        self.assertIs(shows_out(2, [], pairs(0, -1), (5, -1)), True)
        self.assertIs(shows_in(2, [], pairs(0, 0), ()), True)
        self.assertIs(shows_in(2, [], pairs(0, 1), ()), False)

    def test_errors_in_their_order(self):
        wrong = [[(0, 0)], [(1,)], [(1, 0, 0)], [()], [(101, 0)], [(0, -101)], [(1, 0)] * 9, [(1, 1), (0, 0)], [(BIG, 1)]]
        other = [[("1", 0)], [[1, 0]], ["ab"], [None]]
        for call, told in ((shows_in, ((2, 4),)), (shows_out, (1,))):
            for n in (0, 5, -1, BIG):
                self.told(BadNumber, call, n, [(0, 0)], (), told)
            for strokes in wrong:
                self.assertIs(is_strokes(2, strokes), False)
                self.told(NotStrokes, call, 2, strokes, (), told)
            for strokes in other:
                self.told(NotStrokes, call, 2, strokes, (), told)
            self.assertIs(call(2, [(100, -100)] * 8, (), told), False)


def sign_at(k, r, signs, indexes):
    """The sign of different indexes in any order, as 1, -1 or 0."""
    worth = "-0+".index(signs[list(combinations(range(k), r)).index(tuple(sorted(indexes)))]) - 1
    wrong = sum(indexes[i] > indexes[j] for j in range(r) for i in range(j))
    return worth * (-1) ** wrong


def kind_of(k, r, signs, told):
    """strict, even or neither, by [265]."""
    x, a, b, c, d = told
    first = sign_at(k, r, signs, x + (a, b)) * sign_at(k, r, signs, x + (c, d))
    second = sign_at(k, r, signs, x + (a, d)) * sign_at(k, r, signs, x + (b, c))
    return "strict" if first and first == second else "even" if first and not second else "neither"


def cancelled(comparisons):
    left = sorted(tuple(sorted(x + pair)) for x, a, b, c, d in comparisons for pair in ((a, b), (c, d)))
    right = sorted(tuple(sorted(x + pair)) for x, a, b, c, d in comparisons for pair in ((a, c), (b, d)))
    return left == right


def all_comparisons(k, r):
    return [(x, *four) for x in combinations(range(k), r - 2) for four in permutations(range(k), 4)
            if not set(x) & set(four)]


class TestComparisons(unittest.TestCase, Refusals):

    def test_pairs_of_comparisons(self):
        draw = Random(8)
        seen = set()
        for k, r in ((4, 2), (5, 3), (6, 4)):
            every = all_comparisons(k, r)
            for _ in range(30):
                signs = "".join(draw.choice("++--0") for _ in combinations(range(k), r))
                kinds = {told: kind_of(k, r, signs, told) for told in every}
                for one in draw.sample(every, 12):
                    for other in every[::7] + [(one[0], one[1], one[3], one[2], one[4])]:
                        found = [kinds[one], kinds[other]]
                        due = "neither" not in found and "strict" in found and cancelled([one, other])
                        seen.add((found[0], found[1], due))
                        self.assertIs(comparisons_cancel(k, r, signs, [one, other]), due)
        self.assertIn(("strict", "strict", True), seen)

    def test_a_comparison_and_its_other_way_round(self):
        # ab cd and ac bd change places; such signs obey no law.
        seen = set()
        for signs in all_rows(6):
            one, other = ((), 0, 1, 2, 3), ((), 0, 2, 1, 3)
            found = [kind_of(4, 2, signs, told) for told in (one, other)]
            due = "neither" not in found and "strict" in found
            seen.add((tuple(sorted(found)), due))
            self.assertIs(comparisons_cancel(4, 2, signs, [one, other]), due)
            self.assertIs(comparisons_cancel(4, 2, signs, [other, one]), due)
            # Told twice, they cancel still; one of them alone does not.
            self.assertIs(comparisons_cancel(4, 2, signs, [one, other, other, one]), due)
            self.assertIs(comparisons_cancel(4, 2, signs, [one, other, one]), False)
            self.assertIs(comparisons_cancel(4, 2, signs, [one]), False)
        self.assertTrue({(("strict", "strict"), True), (("even", "even"), False)} <= seen)

    def test_signs_of_planes(self):
        # No comparisons of theirs cancel: each two are tried.
        for planes in (origin_planes(3, 2, 4, 3), origin_planes(4, 3, 5, 2), origin_planes(6, 4, 6, 2)):
            k, r = len(planes), planes.n
            signs = signs_of(planes)
            every = [told for told in all_comparisons(k, r) if kind_of(k, r, signs, told) != "neither"]
            for one in every[::5]:
                for other in every[::3]:
                    self.assertIs(comparisons_cancel(k, r, signs, [one, other]), False)

    def test_tuples_that_are_no_comparisons(self):
        signs = self.cancelling()
        good = [((), 0, 1, 2, 3), ((), 0, 2, 1, 3)]
        self.assertIs(comparisons_cancel(4, 2, signs, good), True)
        for bad in (((0,), 0, 1, 2, 3), ((4,), 0, 1, 2, 3), ((), 0, 1, 2, 4), ((), -1, 1, 2, 3), ((), 0, 1, 2, 2),
                    ((), 0, 0, 2, 3), ((), 0, 1, 2, 0), ((), 0, 1, 2, BIG), ((), 0, 1, 2), ((), 0, 1, 2, 3, 3), (),
                    [(), 0, 1, 2, 3], ([], 0, 1, 2, 3), (0, 0, 1, 2, 3), ((), 0, 1, 2, "3"), (("0",), 0, 1, 2, 3)):
            self.assertIs(comparisons_cancel(4, 2, signs, good + [bad]), False)
            self.assertIs(comparisons_cancel(4, 2, signs, [bad]), False)

    def cancelling(self):
        """Signs of four indexes with r = 2 for which two comparisons cancel."""
        for signs in all_rows(6, "+-"):
            if {kind_of(4, 2, signs, told) for told in (((), 0, 1, 2, 3), ((), 0, 2, 1, 3))} == {"strict"}:
                return signs
        raise AssertionError

    def test_indexes_in_front(self):
        signs = self.cancelling()
        # The same signs for six indexes, r = 4, with 0 and 1 in front of all that counts.
        table = dict(zip(combinations(range(2, 6), 2), signs))
        longer = "".join(table.get(part[2:], "0") if part[:2] == (0, 1) else "0" for part in combinations(range(6), 4))
        good = [((0, 1), 2, 3, 4, 5), ((0, 1), 2, 4, 3, 5)]
        self.assertIs(comparisons_cancel(6, 4, longer, good), True)
        for x in ((1, 0), (0, 0), (0, 2), (0,), (0, 1, 2), (), (0, 6), (-1, 0)):
            bad = [(x, 2, 3, 4, 5), (x, 2, 4, 3, 5)]
            self.assertIs(comparisons_cancel(6, 4, longer, bad), False)
            self.assertIs(comparisons_cancel(6, 4, longer, good + bad), False)

    def test_no_comparisons(self):
        self.assertIs(comparisons_cancel(4, 2, "++++++", []), False)
        self.assertIs(comparisons_cancel(2, 2, "+", []), False)
        self.assertIs(comparisons_cancel(9, 4, "+" * 126, []), False)

    def test_errors_in_their_order(self):
        for k in (1, 10, 0, -3, BIG):
            self.told(BadNumber, comparisons_cancel, k, 2, "x", [])
        for k in range(2, 10):
            for r in (-1, 0, 1, 2, 3, 4, 5, BIG):
                if not 2 <= r <= min(k, 4):
                    self.told(BadNumber, comparisons_cancel, k, r, "x", [()])
                    continue
                many = len(list(combinations(range(k), r)))
                self.assertIs(comparisons_cancel(k, r, "+" * many, [()]), False)
                for signs in ("", "+" * (many - 1), "+" * (many + 1), "+" * (many - 1) + "x", " " * many):
                    self.told(NotSigns, comparisons_cancel, k, r, signs, [()])


if __name__ == "__main__":
    unittest.main()

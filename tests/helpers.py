"""What several tests need: fractions, an elimination of its own, lists of planes."""

import ast
from fractions import Fraction
from itertools import combinations, permutations, product
from math import gcd
from pathlib import Path
from random import Random

from planeworth.planes import Planes
from planeworth.products import Sum
from planeworth.texts import read_planes

# Pairs that are not in lowest terms, or whose second integer is 0 or below.
NO_NUMBERS = [(2, 4), (0, 2), (0, 0), (1, 0), (-3, 0), (1, -2), (0, -1), (-6, 3), (10 ** 40, 10), (5, -5)]

BIG = 10 ** 33 + 7


def pair(x):
    """A fraction or an integer as a number."""
    x = Fraction(x)
    return (x.numerator, x.denominator)


def pairs(*xs):
    """Fractions, integers or texts such as "1/2" as a row of numbers."""
    return tuple(pair(x) for x in xs)


def fractions(row):
    """A row of numbers as a list of fractions; each of them must be in lowest terms."""
    for a, b in row:
        assert b >= 1 and gcd(a, b) == 1, row
    return [Fraction(a, b) for a, b in row]


def dot(one, other):
    """The product of two rows of fractions or integers."""
    assert len(one) == len(other)
    return sum((x * y for x, y in zip(one, other)), Fraction(0))


def reduced(rows):
    """The echelon form of rows of fractions, worked out apart from the program."""
    left = [list(map(Fraction, row)) for row in rows]
    done = []
    for place in range(len(left[0]) if left else 0):
        at = next((k for k, row in enumerate(left) if row[place]), None)
        if at is None:
            continue
        by = left.pop(at)
        by = [x / by[place] for x in by]
        done = [[x - row[place] * y for x, y in zip(row, by)] for row in done] + [by]
        left = [[x - row[place] * y for x, y in zip(row, by)] for row in left]
    return done


def pivots_of(rows):
    """The places of the first entries that are not 0."""
    return [next(k for k, x in enumerate(row) if x) for row in rows]


def determinant_by_orders(rows):
    """The sum over all orders of the places."""
    total = Fraction(0)
    for order in permutations(range(len(rows))):
        wrong = sum(order[i] > order[j] for j in range(len(rows)) for i in range(j))
        part = Fraction(-1 if wrong % 2 else 1)
        for row, place in zip(rows, order):
            part *= row[place]
        total += part
    return total


def all_rows(many, signs="+-0"):
    """All rows of so many signs, in the order of [60]."""
    return ["".join(row) for row in product(signs, repeat=many)]


def row_at(planes, point):
    """The row of sides of a point of fractions, by [20] and [22]."""
    row = ""
    for plane in planes.planes():
        value = dot(plane[:-1], point) - plane[-1]
        row += "+" if value > 0 else "-" if value < 0 else "0"
    return row


def point_shows(planes, row, point):
    """Whether a point of numbers shows a row, by [40]."""
    return len(point) == planes.n and row_at(planes, fractions(point)) == row


def combination_refuses(planes, row, combination):
    """Whether a tuple of numbers refuses a row, by [41]."""
    ys = fractions(combination)
    rows = planes.planes()
    if len(ys) != len(rows):
        return False
    for letter, y in zip(row, ys):
        if letter == "+" and y < 0 or letter == "-" and y > 0:
            return False
    if any(dot(ys, [plane[k] for plane in rows]) for k in range(planes.n)):
        return False
    total = dot(ys, [plane[-1] for plane in rows])
    if total < 0:
        return False
    return total != 0 or any(y and letter != "0" for y, letter in zip(ys, row))


def figures(numbers):
    """The most figures that an integer in a tuple of numbers has."""
    return max([len(str(abs(a))) for x in numbers for a in x], default=0)


def random_planes(seed, n, many, most):
    """A list of planes with random entries."""
    draw = Random(seed)
    rows = []
    while len(rows) < many:
        plane = tuple(draw.randint(-most, most) for _ in range(n + 1))
        other = tuple(-a for a in plane)
        if any(plane[:n]) and gcd(*plane) == 1 and plane not in rows and other not in rows:
            rows.append(plane)
    return Planes(n, rows)


def all_indexes(planes):
    """All ascending tuples of indexes, shorter ones first."""
    return [part for size in range(len(planes) + 1) for part in combinations(range(len(planes)), size)]


class Told:
    """The ranks, meets and flats of a list, by an elimination of the tests' own."""

    def __init__(self, planes):
        self.planes = planes
        self.rows = planes.planes()
        self.known = {}
        self.all_flats = None

    def ranks(self, indexes):
        """The ranks of the rows without and with the last entry."""
        key = frozenset(indexes)
        if key not in self.known:
            rows = [self.rows[k] for k in key]
            self.known[key] = len(reduced([row[:-1] for row in rows])), len(reduced(rows))
        return self.known[key]

    def rank(self, indexes):
        return self.ranks(indexes)[0]

    def meets(self, indexes):
        return self.ranks(indexes)[0] == self.ranks(indexes)[1]

    def flat(self, indexes):
        """All planes that change neither the rank nor that the planes meet."""
        return tuple(k for k in range(len(self.rows)) if self.ranks((*indexes, k))[1] == self.rank(indexes))

    def weights(self):
        """The weights of all flats, in the order of the web, added up by [84]."""
        weights = {}
        for flat in self.web():
            less = sum(much for other, much in weights.items() if set(other) < set(flat))
            weights[flat] = -less if flat else 1
        return weights

    def web(self):
        if self.all_flats is None:
            flats = {self.flat(part) for part in all_indexes(self.planes) if self.meets(part)}
            self.all_flats = sorted(flats, key=lambda flat: (self.rank(flat), flat))
        return list(self.all_flats)


def origin_planes(seed, n, many, most):
    """A list of planes at the origin with random entries."""
    draw = Random(seed)
    rows = []
    while len(rows) < many:
        plane = tuple(draw.randint(-most, most) for _ in range(n)) + (0,)
        if any(plane) and gcd(*plane) == 1 and plane not in rows and tuple(-a for a in plane) not in rows:
            rows.append(plane)
    return Planes(n, rows)


def random_sum(seed, planes, size, many=8, most=9):
    """A sum with random products, some of them twice."""
    draw = Random(seed)
    every = list(combinations(range(len(planes)), size))
    terms = [(draw.choice(every), pair(Fraction(draw.randint(-most, most), draw.randint(1, most))))
             for _ in range(many if every else 0)]
    return Sum(planes, size, terms)


# Lists with ties of all kinds: parallel planes, letters in no plane, all planes through one point.
SMALL_LISTS = [read_planes(text) for text in (
    "1", "3",
    "1 1,0", "1 1,0 1,1", "1 1,0 -1,1 2,1 3,-5",
    "2 1,0,0", "2 1,0,0 1,0,1 -1,0,1", "2 0,1,0 0,1,1 0,2,1",
    "2 1,0,0 0,1,0 1,1,1", "2 1,0,0 0,1,0 1,1,0", "2 1,0,0 0,1,0 1,1,0 1,-1,0",
    "2 1,0,0 1,0,1 0,1,0 0,1,1 1,1,1", "2 1,2,3 -3,1,2 5,7,-1 2,4,5 1,1,1",
    "3 1,0,0,0", "3 1,0,0,0 0,1,0,0 0,0,1,0 1,1,1,0", "3 1,0,0,0 0,1,0,0 0,0,1,0 1,1,1,1",
    "3 1,1,0,0 1,-1,0,0 1,0,1,0 1,0,-1,0", "3 1,1,0,1 1,1,0,2 0,1,1,0 1,2,1,5",
    "3 0,0,1,0 1,0,0,0 1,0,1,4",
    "4 1,0,0,0,0 0,1,0,0,0 0,0,1,0,0 0,0,0,1,0 1,1,1,1,1", "4 1,0,0,0,0 1,0,0,0,1 0,1,1,0,0",
    "4 1,1,1,1,0 1,2,1,1,0 1,1,2,1,3 0,1,0,0,7",
)]

EXAMPLE = read_planes("2 1,0,0 0,1,0 1,1,1")


# Planes at the origin: free ones and others, for 1 to 4 letters, with letters in no plane.
ORIGIN_LISTS = [read_planes(text) for text in (
    "1", "2", "4", "1 1,0", "1 -1,0", "2 1,-2,0", "2 1,0,0 0,1,0", "2 1,0,0 0,1,0 1,-1,0", "2 1,2,0 3,-1,0 5,2,0 0,1,0",
    "3 1,0,0,0", "3 1,0,0,0 0,1,0,0 0,0,1,0 1,1,1,0", "3 1,1,0,0 1,-1,0,0", "3 1,0,0,0 0,1,0,0 1,-1,0,0 2,1,0,0",
    "3 1,0,0,0 0,1,0,0 0,0,1,0 1,-1,0,0 1,0,-1,0 0,1,-1,0", "3 1,0,0,0 0,1,0,0 0,0,1,0 1,-1,0,0 1,0,-1,0",
    "3 1,0,0,0 0,1,0,0 1,1,0,0 0,0,1,0 1,1,1,0", "3 1,2,3,0 2,-1,1,0 1,1,-1,0 3,0,1,0 1,5,2,0",
    "4 1,0,0,0,0 0,1,0,0,0 0,0,1,0,0 0,0,0,1,0", "4 1,0,0,0,0 0,1,0,0,0 0,0,1,0,0 0,0,0,1,0 1,1,1,1,0",
    "4 0,1,0,0,0 0,1,1,0,0 0,0,1,0,0", "4 1,-1,0,0,0 0,1,-1,0,0 1,0,-1,0,0 0,0,1,-1,0 0,1,0,-1,0")]


def imports_of(module):
    """The names of the modules that a module imports from."""
    tree = ast.parse(Path(module.__file__).read_text(encoding="utf-8"))
    assert not any(isinstance(node, ast.Import) for node in ast.walk(tree))
    return {node.module for node in ast.walk(tree) if isinstance(node, ast.ImportFrom)}


class Refusals:
    """For test cases: a call must raise an error of one class."""

    def told(self, error, call, *arguments):
        """The error that the call raises, which must be of this very class."""
        with self.assertRaises(error) as caught:
            call(*arguments)
        self.assertIs(type(caught.exception), error)
        return caught.exception

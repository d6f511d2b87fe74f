"""Bodies spanned by strokes: corners, greatest values, least shares, whole points, pieces."""

from planeworth.counting import value_at
from planeworth.errors import BadNumber, NoAnswer, NotGraph, NotPoint, NotStrokes, TooLarge
from planeworth.flats import first_above_zero
from planeworth.linear import (index_choices, kernel_from, solution_or_none, whole_determinant, whole_echelon,
                               whole_product)
from planeworth.numbers import ONE, ZERO, cleared, content, negated, numbers_of, over_one_divisor, primitive, sign
from planeworth.planes import Planes, check_letters, check_point
from planeworth.rooms import rooms

MOST_STROKES = 8
MOST_STROKE_ENTRY = 100
MOST_STRETCH = 1000
MOST_BOX = 2000
MOST_EDGES = 6


def is_stroke(n, stroke):
    """Whether a tuple of integers may be a stroke."""
    return (len(stroke) == n and any([a != 0 for a in stroke])
            and all([-MOST_STROKE_ENTRY <= a <= MOST_STROKE_ENTRY for a in stroke]))


def is_strokes(n, strokes):
    """Whether a list of tuples of integers are strokes."""
    check_letters(n)
    return len(strokes) <= MOST_STROKES and all([is_stroke(n, stroke) for stroke in strokes])


def check_strokes(n, strokes):
    """Raise BadNumber for n, then NotStrokes if tuples are no strokes."""
    if not is_strokes(n, strokes):
        raise NotStrokes("tuples of integers are no strokes")


def planes_of(n, strokes):
    """The planes of strokes."""
    check_strokes(n, strokes)
    found = []
    for stroke in strokes:
        plane = primitive(stroke) + (0,)
        if plane not in found and negated(plane) not in found:
            found.append(plane)
    return Planes(n, found)


def sum_of(n, strokes):
    """The sum of some strokes."""
    return tuple([sum([stroke[k] for stroke in strokes]) for k in range(n)])


def sides_from(planes, strokes):
    """For each stroke the index of its plane, and the sign of a room there at which it belongs to the corner."""
    rows = planes.planes()
    found = []
    for stroke in strokes:
        plane = primitive(stroke) + (0,)
        if plane in rows:
            found.append((rows.index(plane), "+"))
        else:
            found.append((rows.index(negated(plane)), "-"))
    return found


def corners(n, strokes):
    """The ascending list of the corners."""
    planes = planes_of(n, strokes)
    told = sides_from(planes, strokes)
    return sorted([sum_of(n, [stroke for stroke, (at, letter) in zip(strokes, told) if room[at] == letter])
                   for room in rooms(planes)])


def check_direction(n, direction):
    """Raise NotPoint if a direction is no tuple of n integers."""
    if len(direction) != n or not all([isinstance(a, int) for a in direction]):
        raise NotPoint("a direction has an integer for each letter")


def corner(n, strokes, direction):
    """The corner at which a direction has its greatest value."""
    check_strokes(n, strokes)
    check_direction(n, direction)
    values = [whole_product(stroke, direction) for stroke in strokes]
    if 0 in values:
        raise NoAnswer("there are several such corners")
    return sum_of(n, [stroke for stroke, value in zip(strokes, values) if value > 0])


def greatest_value(strokes, direction):
    """The greatest value of a direction over the points of the body."""
    return sum([max(0, whole_product(stroke, direction)) for stroke in strokes])


def greatest(n, strokes, direction):
    """The greatest value of a direction in the body."""
    check_strokes(n, strokes)
    check_direction(n, direction)
    return greatest_value(strokes, direction)


def unit_strokes(n):
    """The list of the rows with 1 at one letter and otherwise 0."""
    return [tuple([1 if k == letter else 0 for k in range(n)]) for letter in range(n)]


def spanning(n, strokes):
    """The strokes, and the rows of those letters that they need to make all others."""
    pivots = [pivot for pivot, _ in whole_echelon(n, strokes)]
    return list(strokes) + [row for letter, row in enumerate(unit_strokes(n)) if letter not in pivots]


def normals(n, strokes):
    """A list of directions, each but for its sign, that with their opposites tell the body.

    A point is in the body if none of their values there is greater than the
    greatest one. If the strokes do not span the space, rows that do, as strokes
    without any length, tell the same of it.
    """
    rows = spanning(n, strokes)
    found = {}
    for indexes in index_choices(len(rows), n - 1):
        basis = kernel_from(n, whole_echelon(n, [rows[at] for at in indexes]))
        if len(basis) == 1:
            found[first_above_zero(cleared(basis[0]))] = True
    return list(found)


def bounds_of(n, strokes):
    """The list of the directions that tell the body, with the least and the greatest value of each."""
    return [(u, -greatest_value(strokes, negated(u)), greatest_value(strokes, u)) for u in normals(n, strokes)]


def leading_out(n, strokes, point):
    """A direction whose value at a point is greater than the greatest one, or None."""
    integers, divisor = over_one_divisor(point)
    for u, least, most in bounds_of(n, strokes):
        value = whole_product(u, integers)
        if value > most * divisor:
            return u
        if value < least * divisor:
            return negated(u)
    return None


def choices_of(n, strokes, size):
    """The list of all choices of so many strokes, with their weights."""
    letters = index_choices(n, size)
    found = []
    for indexes in index_choices(len(strokes), size):
        much = content([whole_determinant([[strokes[at][k] for k in part] for at in indexes]) for part in letters])
        if much != 0:
            found.append((indexes, much))
    return found


def made_by(n, strokes, choice, row):
    """The numbers by which the strokes of a choice, multiplied, make a row of numbers, or None."""
    columns = [numbers_of([strokes[at][k] for at in choice]) for k in range(n)]
    return solution_or_none(len(choice), columns, row)


def shift_indexes(n, strokes, choice):
    """The list of the strokes that are added to those of a choice to make its piece."""
    found = []
    for j in range(len(strokes)):
        if j not in choice:
            told = made_by(n, strokes, choice, numbers_of(strokes[j]))
            last, x = [(i, x) for i, x in zip(choice, told) if x != ZERO][-1]
            if last > j and sign(x) > 0:
                found.append(j)
    return found


def least_shares(n, strokes, point):
    """The least shares of a point that is in the body.

    With the strokes the other way round the pieces are such that the shares of
    a point in a piece are the least ones: to take less of a stroke, others
    would have to take more that stand ahead of it.
    """
    turned = list(reversed(strokes))
    many = len(turned)
    for choice, _ in choices_of(n, turned, len(whole_echelon(n, turned))):
        added = shift_indexes(n, turned, choice)
        shift = sum_of(n, [turned[j] for j in added])
        left = tuple([(x[0] - a * x[1], x[1]) for x, a in zip(point, shift)])
        told = made_by(n, turned, choice, left)
        if told is not None and all([0 <= x[0] <= x[1] for x in told]):
            shares = [ONE if j in added else ZERO for j in range(many)]
            for at, x in zip(choice, told):
                shares[at] = x
            return tuple(reversed(shares))
    return None


def placed(n, strokes, point):
    """("in", shares) with the least shares of a point, or ("out", direction)."""
    check_strokes(n, strokes)
    check_point(n, point)
    direction = leading_out(n, strokes, point)
    if direction is not None:
        return ("out", direction)
    return ("in", least_shares(n, strokes, point))


def stroke_count(n, strokes):
    """The count of strokes."""
    check_strokes(n, strokes)
    return [sum([much for _, much in choices_of(n, strokes, size)]) for size in range(n + 1)]


def volume(n, strokes):
    """The volume of the body."""
    return stroke_count(n, strokes)[n]


def whole_number(n, strokes, t):
    """The number of the whole points of the body stretched by t."""
    count = stroke_count(n, strokes)
    if not 0 <= t <= MOST_STRETCH:
        raise BadNumber("t is from 0 to 1000")
    return value_at(count, t)


def whole_inner_number(n, strokes, t):
    """The number of the inner whole points of the body stretched by t."""
    count = stroke_count(n, strokes)
    if not 1 <= t <= MOST_STRETCH:
        raise BadNumber("t is from 1 to 1000")
    if count[n] == 0:
        raise NoAnswer("there is no choice of n strokes")
    value = value_at(count, -t)
    return -value if n % 2 == 1 else value


def box_of(n, strokes):
    """The list of the ranges, as pairs of the least and the greatest integer, of the least box of the body."""
    columns = [[stroke[k] for stroke in strokes] for k in range(n)]
    return [(sum([min(0, a) for a in entries]), sum([max(0, a) for a in entries])) for entries in columns]


def whole_points(n, strokes):
    """The ascending list of the whole points of the body."""
    check_strokes(n, strokes)
    box = box_of(n, strokes)
    many = 1
    for least, most in box:
        many = many * (most - least + 1)
    if many > MOST_BOX:
        raise TooLarge("the box has more than 2000 whole points")
    points = [()]
    for least, most in box:
        points = [point + (a,) for point in points for a in range(least, most + 1)]
    bounds = bounds_of(n, strokes)
    return [point for point in points
            if all([least <= whole_product(u, point) <= most for u, least, most in bounds])]


def pieces(n, strokes):
    """The list of the pairs of a choice of n strokes and its shift."""
    check_strokes(n, strokes)
    choices = choices_of(n, strokes, n)
    if len(choices) == 0:
        raise NoAnswer("there is no choice of n strokes")
    return [(choice, sum_of(n, [strokes[j] for j in shift_indexes(n, strokes, choice)])) for choice, _ in choices]


def graph_strokes(n, edges):
    """The strokes of a list of edges."""
    check_letters(n)
    if len(edges) > MOST_EDGES or any([len(edge) != 2 or not 0 <= edge[0] < edge[1] < n for edge in edges]):
        raise NotGraph("there are up to 6 edges (i, j) with 0 <= i < j < n")
    if any([edge in edges[:k] for k, edge in enumerate(edges)]):
        raise NotGraph("an edge stands twice")
    return [tuple([1 if k == i else -1 if k == j else 0 for k in range(n)]) for i, j in edges]

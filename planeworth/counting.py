"""The polynomial of the web, numbers of rooms and faces, shrunk lists, points over small fields."""

from itertools import combinations

from planeworth.errors import BadNumber, NoAnswer, TooLarge
from planeworth.flats import bits_of, first_above_zero, meeting, web_by_rank, weights_from
from planeworth.linear import first_row_with, whole_product
from planeworth.numbers import primitive, whole_sign
from planeworth.planes import MOST_ENTRY, Planes, check_index

PRIMES = (2, 3, 5, 7, 11, 13, 17, 19, 23, 29, 31)
MOST_POINTS = 3000


def bits_and_dimensions(planes):
    """The list of the bits of all flats, in order, and the list of their dimensions."""
    levels = [[bits_of(flat) for flat in level] for level in web_by_rank(planes)]
    dimensions = [planes.n - k for k, level in enumerate(levels) for _ in level]
    return [bits for level in levels for bits in level], dimensions


def polynomial(planes):
    """The polynomial of a list of planes, ascending powers first."""
    flats_bits, dimensions = bits_and_dimensions(planes)
    poly = [0] * (planes.n + 1)
    for dimension, (_, much) in zip(dimensions, weights_from(flats_bits, 0)):
        poly[dimension] += much
    return poly


def value_at(poly, t):
    """The integer that a list of integers, ascending powers first, has at an integer."""
    value = 0
    for a in reversed(poly):
        value = value * t + a
    return value


def rooms_number(planes):
    """The number of rooms."""
    return sum([abs(a) for a in polynomial(planes)])


def bounded_number(planes):
    """The number of bounded rooms."""
    # The sign is the one that leaves a number not below 0.
    return abs(value_at(polynomial(planes), 1))


def faces_numbers(planes):
    """The list of the numbers of faces with the dimensions 0 to n."""
    flats_bits, dimensions = bits_and_dimensions(planes)
    numbers = [0] * (planes.n + 1)
    for dimension, first in zip(dimensions, flats_bits):
        numbers[dimension] += sum([abs(much) for _, much in weights_from(flats_bits, first)])
    return numbers


def told_on(plane, row):
    """What another plane tells of the letters that are left on a plane."""
    at = [k for k, a in enumerate(plane) if a != 0][0]
    turn = whole_sign(plane[at])
    # The entries of [87], multiplied by the size of the plane's entry at this letter.
    entries = [turn * (c * plane[at] - row[at] * a) for a, c in zip(plane, row)]
    return primitive(entries[:at] + entries[at + 1:])


def shrunk_pairs(planes, index, plane):
    """The list of the pairs of a plane on `plane` and the indexes of which it comes.

    `plane` is the one with the index, or has another last entry.
    """
    chosen = {}
    for at, row in enumerate(planes.planes()):
        entries = told_on(plane, row)
        if at != index and any([a != 0 for a in entries[:-1]]):
            chosen.setdefault(first_above_zero(entries), []).append((entries, at))
    found = [(group[0][0], tuple([at for _, at in group])) for group in chosen.values()]
    if any([abs(a) > MOST_ENTRY for entries, _ in found for a in entries]):
        raise TooLarge("an integer of a plane is not from -1000 to 1000")
    return found


def pairs_on_own(planes, index):
    """The pairs for the plane with an index itself, behind the errors."""
    check_index(planes, index)
    if planes.n == 1:
        raise NoAnswer("there is one letter alone")
    return shrunk_pairs(planes, index, planes.planes()[index])


def shrunk(planes, index):
    """The list shrunk to the plane with an index."""
    return Planes(planes.n - 1, [entries for entries, _ in pairs_on_own(planes, index)])


def shrunk_from(planes, index):
    """The list of the tuples of the indexes of which the planes of the shrunk list come."""
    return [indexes for _, indexes in pairs_on_own(planes, index)]


def section(planes, index):
    """The section of a list whose planes all contain the point 0."""
    check_index(planes, index)
    rows = planes.planes()
    if planes.n == 1 or any([row[-1] != 0 for row in rows]):
        raise NoAnswer("a plane does not contain the point 0, or there is one letter alone")
    pairs = shrunk_pairs(planes, index, rows[index][:-1] + (1,))
    return Planes(planes.n - 1, [entries for entries, _ in pairs])


def check_prime(q):
    """Raise BadNumber if q is no prime from 2 to 31."""
    if q not in PRIMES:
        raise BadNumber("q is no prime from 2 to 31")


def rank_over(q, width, rows):
    """The rank of some equations over the field with q elements, or None if they do not meet.

    The width is that of the rows without the last entry.
    """
    left = [[a % q for a in row] for row in rows]
    many = 0
    for place in range(width + 1):
        at = first_row_with(left, place)
        if at is not None:
            if place == width:
                return None
            many += 1
            by = left[at]
            left = [[(by[place] * a - row[place] * b) % q for a, b in zip(row, by)]
                    for k, row in enumerate(left) if k != at]
    return many


def is_good(planes, q):
    """Whether a prime is good for a list."""
    check_prime(q)
    rows = planes.planes()
    # Sets of at most n + 1 planes tell all others: planes that do not meet have so many that
    # do not, and planes that meet have at most n of their rank, on which each other one lies.
    for size in range(planes.n + 2):
        for indexes in combinations(range(len(rows)), size):
            found = meeting(planes, indexes)
            many = None if found is None else len(found)
            if many != rank_over(q, planes.n, [rows[at] for at in indexes]):
                return False
    return True


def check_rests(n, q):
    """Raise TooLarge if there are more than 3000 points of n rests by q."""
    many = 1
    for _ in range(n):
        many = many * q
    if many > MOST_POINTS:
        raise TooLarge("there are more than 3000 points")


def rest_rows(n, q):
    """The list of all points of n rests by q, with -1 behind each."""
    points = [()]
    for _ in range(n):
        points = [point + (x,) for point in points for x in range(q)]
    return [point + (-1,) for point in points]


def points_off(planes, q):
    """The number of the points of rests by q that lie on no plane, read by their rests."""
    rows = planes.planes()
    return len([point for point in rest_rows(planes.n, q)
                if all([whole_product(row, point) % q != 0 for row in rows])])


def points_over(planes, q):
    """The number of the points over the field with q elements that lie on no plane."""
    check_prime(q)
    check_rests(planes.n, q)
    return points_off(planes, q)

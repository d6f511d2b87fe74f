"""Planes, points and rows of sides."""

from planeworth.errors import BadNumber, NotPlanes, NotPoint, NotRow
from planeworth.linear import clash, is_number_row, kernel, solution, whole_echelon, whole_product
from planeworth.numbers import content, negated, numbers_of, over_one_divisor

MOST_LETTERS = 4
MOST_PLANES = 12
MOST_ENTRY = 1000
SIGNS = "+-0"
TURNED = {"+": "-", "-": "+", "0": "0"}


def check_letters(n):
    """Raise BadNumber if there are not 1 to 4 letters."""
    if not 1 <= n <= MOST_LETTERS:
        raise BadNumber("there are 1 to 4 letters")


def is_plane(n, plane):
    """Whether a tuple of integers is a plane for n letters."""
    check_letters(n)
    return (len(plane) == n + 1
            and all([-MOST_ENTRY <= a <= MOST_ENTRY for a in plane])
            and any([a != 0 for a in plane[:n]])
            and content(plane) == 1)


def check_point(n, point):
    """Raise BadNumber for n, then NotPoint if the tuple does not consist of n numbers."""
    check_letters(n)
    if not is_number_row(n, point):
        raise NotPoint("a point has a number for each letter")


def check_planes(n, rows):
    """Raise BadNumber for n, then NotPlanes if the tuples are no list of planes."""
    check_letters(n)
    if len(rows) > MOST_PLANES:
        raise NotPlanes("there are at most 12 planes")
    before = []
    for plane in rows:
        if not is_plane(n, plane):
            raise NotPlanes("a tuple is no plane")
        if plane in before:
            raise NotPlanes("two planes have the same points")
        before.append(plane)
        before.append(negated(plane))


def check_index(planes, at):
    """Raise BadNumber if an index is none of the list."""
    if not 0 <= at < len(planes):
        raise BadNumber("an index is none of the list")


def ascends(indexes):
    """Whether the indexes ascend strictly."""
    return all([a < b for a, b in zip(indexes, indexes[1:])])


def check_indexes(planes, indexes):
    """Raise BadNumber if an index is none of the list, or they do not ascend strictly."""
    for at in indexes:
        check_index(planes, at)
    if not ascends(indexes):
        raise BadNumber("the indexes do not ascend")


class Planes:
    """A list of planes for n letters."""

    def __init__(self, n, rows):
        check_planes(n, rows)
        self.n = n
        self._rows = list(rows)

    def __len__(self):
        return len(self._rows)

    def __eq__(self, other):
        return isinstance(other, Planes) and self.n == other.n and self._rows == other._rows

    def planes(self):
        """The list of the tuples."""
        return list(self._rows)

    def rank(self):
        """The rank of the matrix of the rows a1, .., an."""
        return len(whole_echelon(self.n, letter_rows(self)))

    def is_central(self):
        """Whether all planes meet."""
        found = whole_echelon(self.n + 1, self._rows)
        return all([pivot < self.n for pivot, _ in found])

    def without(self, at):
        """The list without the plane with an index."""
        check_index(self, at)
        return Planes(self.n, [plane for k, plane in enumerate(self._rows) if k != at])

    def turned(self, at):
        """The list with this plane taken the other way round."""
        check_index(self, at)
        rows = list(self._rows)
        rows[at] = negated(rows[at])
        return Planes(self.n, rows)

    def only(self, indexes):
        """The list of the planes with these indexes."""
        check_indexes(self, indexes)
        return Planes(self.n, [self._rows[at] for at in indexes])


def letter_rows(planes):
    """The list of the rows a1, .., an, tuples of integers."""
    return [plane[:planes.n] for plane in planes.planes()]


def sign_letter(a):
    """The sign of an integer as it stands in a row of sides."""
    if a > 0:
        return "+"
    if a < 0:
        return "-"
    return "0"


def sides_of(planes, point):
    """The list of the sides of a point that is one."""
    integers, divisor = over_one_divisor(point)
    # With the divisor behind them, the integers tell a1 x1 + .. + an xn - b but for a factor.
    place = integers + [-divisor]
    return [sign_letter(whole_product(plane, place)) for plane in planes.planes()]


def side(planes, at, point):
    """The side of a point at the plane with an index."""
    check_index(planes, at)
    check_point(planes.n, point)
    return sides_of(planes, point)[at]


def row_of(planes, point):
    """The row of sides of a point."""
    check_point(planes.n, point)
    return "".join(sides_of(planes, point))


def is_row(planes, row):
    """Whether a string is a row of sides for the list."""
    return len(row) == len(planes) and all([letter in SIGNS for letter in row])


def check_row(planes, row):
    """Raise NotRow if the string is no row of sides for the list."""
    if not is_row(planes, row):
        raise NotRow("a string is no row of sides for the list")


def opposite(planes, row):
    """The row with + for - and the other way round."""
    check_row(planes, row)
    return "".join([TURNED[letter] for letter in row])


def parting(planes, one, other):
    """The tuple of the indexes of the planes that part two rows."""
    check_row(planes, one)
    check_row(planes, other)
    return tuple([at for at, letter in enumerate(one) if letter != "0" and other[at] == TURNED[letter]])


def equations(planes, indexes):
    """The rows a1, .., an of some planes and the tuple of their b, as numbers."""
    check_indexes(planes, indexes)
    rows = planes.planes()
    chosen = [numbers_of(rows[at]) for at in indexes]
    return [row[:planes.n] for row in chosen], tuple([row[planes.n] for row in chosen])


def meet(planes, indexes):
    """The place where some planes meet, and the list of the directions."""
    rows, wanted = equations(planes, indexes)
    return solution(planes.n, rows, wanted), kernel(planes.n, rows)


def no_meet(planes, indexes):
    """The clash of planes that do not meet."""
    rows, wanted = equations(planes, indexes)
    return clash(planes.n, rows, wanted)

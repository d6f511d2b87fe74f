"""Stretches and their crossings, moves, joined lists and cones."""

from math import lcm

from planeworth.errors import BadNumber, NotMatrix, NotPoint, TooLarge
from planeworth.linear import determinant, inverse, is_number_row, matrix_product, row_sum, whole_product
from planeworth.numbers import (ONE, ZERO, check_number, cleared, is_less, minus, number, numbers_of,
                                over_one_divisor, plus, times)
from planeworth.planes import (MOST_ENTRY, MOST_LETTERS, MOST_PLANES, Planes, check_letters, check_point,
                               parting, row_of)


def on_stretch(n, one, other, t):
    """The point one + t (other - one)."""
    check_point(n, one)
    check_point(n, other)
    check_number(t)
    if is_less(t, ZERO) or is_less(ONE, t):
        raise BadNumber("t is from 0 to 1")
    return tuple([plus(x, times(t, minus(y, x))) for x, y in zip(one, other)])


def excess(plane, point):
    """The number a1 x1 + .. + an xn - b."""
    integers, divisor = over_one_divisor(point)
    return number(whole_product(plane, integers + [-divisor]), divisor)


def crossing(plane, one, other):
    """The t at which a plane that parts the rows of two points is crossed."""
    a, b = excess(plane, one)
    c, d = excess(plane, other)
    # From a / b to c / d the value is 0 at this share of the way.
    return number(a * d, a * d - c * b)


def crossings(planes, one, other):
    """The list of the pairs (t, index) for the planes that part the rows of two points."""
    rows = planes.planes()
    indexes = parting(planes, row_of(planes, one), row_of(planes, other))
    found = [(crossing(rows[at], one, other), at) for at in indexes]
    divisor = 1
    for t, _ in found:
        divisor = lcm(divisor, t[1])
    # Over one divisor the numbers t ascend as their upper integers do.
    told = sorted([(t[0] * (divisor // t[1]), at, t) for t, at in found])
    return [(t, at) for _, at, t in told]


def column(row):
    """A row of numbers as a matrix of the width 1."""
    return [(x,) for x in row]


def applied_to(n, rows, row):
    """The products of the rows of a matrix with a row, as a tuple."""
    return tuple([line[0] for line in matrix_product(n, rows, 1, column(row))])


class Move:
    """A matrix with an inverse and a shift: it leads points to points and planes to planes."""

    def __init__(self, n, rows, shift):
        check_letters(n)
        if determinant(n, rows) == ZERO:
            raise NotMatrix("the matrix of a move has an inverse")
        if not is_number_row(n, shift):
            raise NotPoint("a shift has a number for each letter")
        self.n = n
        self._rows = list(rows)
        self._shift = shift

    def __eq__(self, other):
        return (isinstance(other, Move) and self.n == other.n
                and self._rows == other._rows and self._shift == other._shift)

    def rows(self):
        """The list of the rows of the matrix."""
        return list(self._rows)

    def shift(self):
        """The tuple of the shift."""
        return self._shift

    def point(self, point):
        """The point that a point is led to."""
        check_point(self.n, point)
        return row_sum(applied_to(self.n, self._rows, point), self._shift)

    def planes(self, planes):
        """The list of the planes that planes are led to."""
        if planes.n != self.n:
            raise BadNumber("the list has another number of letters")
        back = self.undone()
        moved = [moved_plane(back, plane) for plane in planes.planes()]
        if any([abs(a) > MOST_ENTRY for plane in moved for a in plane]):
            raise TooLarge("an integer of a plane is not from -1000 to 1000")
        return Planes(self.n, moved)

    def undone(self):
        """The move that leads back."""
        rows = inverse(self.n, self._rows)
        back = applied_to(self.n, rows, self._shift)
        return Move(self.n, rows, tuple([minus(ZERO, x) for x in back]))

    def behind(self, first):
        """The move that leads where the first one and then this one lead."""
        if first.n != self.n:
            raise BadNumber("the other move has another number of letters")
        rows = matrix_product(self.n, self._rows, self.n, first.rows())
        return Move(self.n, rows, self.point(first.shift()))


def moved_plane(back, plane):
    """The plane that a plane is led to by the move that `back` undoes.

    A point lies behind it if `back` leads this point behind the old plane.
    """
    n = back.n
    letters = numbers_of(plane[:n])
    new_letters = matrix_product(n, [letters], n, back.rows())[0]
    distance = matrix_product(n, [letters], 1, column(back.shift()))[0][0]
    return cleared(new_letters + (minus((plane[n], 1), distance),))


def joined(one, other):
    """Both lists of planes, the letters of the second one behind those of the first one."""
    n, m = one.n, other.n
    if n + m > MOST_LETTERS:
        raise BadNumber("there would be more than 4 letters")
    if len(one) + len(other) > MOST_PLANES:
        raise TooLarge("there would be more than 12 planes")
    first = [plane[:n] + (0,) * m + plane[n:] for plane in one.planes()]
    second = [(0,) * n + plane for plane in other.planes()]
    return Planes(n + m, first + second)


def coned(planes):
    """The cone of a list of planes."""
    n = planes.n
    if n == MOST_LETTERS:
        raise BadNumber("there would be more than 4 letters")
    if len(planes) == MOST_PLANES:
        raise TooLarge("there would be more than 12 planes")
    rows = [plane[:n] + (-plane[n], 0) for plane in planes.planes()]
    return Planes(n + 1, rows + [(0,) * n + (1, 0)])

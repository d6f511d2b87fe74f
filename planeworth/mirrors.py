"""Mirrors of planes, closed lists and their groups, exponents, rooms by distance."""

from planeworth.counting import polynomial, value_at
from planeworth.errors import NoAnswer
from planeworth.linear import row_sum, unit_row, whole_product
from planeworth.moves import Move, moved_plane
from planeworth.numbers import ZERO, negated, number
from planeworth.planes import check_index, parting
from planeworth.rooms import check_room, rooms


def mirror_of(n, plane):
    """The mirror of a plane."""
    row = plane[:n]
    size = whole_product(row, row)
    rows = [row_sum(unit_row(n, k), tuple([number(-2 * row[k] * a, size) for a in row])) for k in range(n)]
    return Move(n, rows, tuple([number(2 * plane[n] * a, size) for a in row]))


def mirror(planes, at):
    """The mirror of the plane with an index."""
    check_index(planes, at)
    return mirror_of(planes.n, planes.planes()[at])


def mirrors_of(planes):
    """The list of the mirrors of all planes."""
    return [mirror_of(planes.n, plane) for plane in planes.planes()]


def is_closed(planes):
    """Whether the mirror of each plane leads each plane to one of them, possibly the other way round."""
    rows = planes.planes()
    both = rows + [negated(plane) for plane in rows]
    # A mirror undone is itself.
    return all([moved_plane(move, plane) in both for move in mirrors_of(planes) for plane in rows])


def calm(n):
    """The move that leads each point to itself."""
    return Move(n, [unit_row(n, k) for k in range(n)], (ZERO,) * n)


def group(planes):
    """The list of the moves of the group of a closed list, the calm one first."""
    if not is_closed(planes):
        raise NoAnswer("the list is not closed")
    mirrors = mirrors_of(planes)
    known = {}
    found = []
    fresh = [calm(planes.n)]
    while len(fresh) > 0:
        further = []
        for move in fresh:
            key = (tuple(move.rows()), move.shift())
            if key not in known:
                known[key] = True
                found.append(move)
                further.extend([one.behind(move) for one in mirrors])
        fresh = further
    return found


def less_root(poly, root):
    """A polynomial, divided by t less one of its roots."""
    found = []
    carried = 0
    for a in reversed(poly[1:]):
        carried = carried * root + a
        found.append(carried)
    return found[::-1]


def exponents(planes):
    """The tuple of the exponents."""
    poly = polynomial(planes)
    found = []
    # The roots add up to the number of the planes, so none that is told is greater.
    for root in range(len(planes) + 1):
        while value_at(poly, root) == 0:
            poly = less_root(poly, root)
            found.append(root)
    if len(found) < planes.n:
        raise NoAnswer("a root of the polynomial is no integer from 0 on")
    return tuple(found)


def rooms_by_distance(planes, row):
    """The list of the numbers of rooms at the distances 0, 1, .. from a room."""
    check_room(planes, row)
    distances = [len(parting(planes, row, room)) for room in rooms(planes)]
    return [distances.count(k) for k in range(max(distances) + 1)]

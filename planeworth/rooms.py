"""Rooms and faces, ways between rooms, and what is bounded."""

from planeworth.errors import BadNumber, NoAnswer, NotPoint, TooLarge
from planeworth.linear import is_number_row, row_sum, whole_combination, whole_echelon, whole_product
from planeworth.mixtures import mixture
from planeworth.numbers import negated, numbers_of, over_one_divisor
from planeworth.planes import SIGNS, TURNED, check_row, letter_rows, parting, sign_letter
from planeworth.sides import combined, factors_at, is_shown, spread, suits, ties

MOST_ROOMS = 400
MOST_FACES = 2000
ROOM_SIGNS = "+-"
STARTS = {"+": 1, "-": -1, "0": 0}


def tie_tests(planes):
    """For each plane the list of the tests of the ties whose last plane it is.

    A test has the planes with a factor above 0 and those with one below 0, each
    as the bits of an integer, and whether the sum for b is not 0. Then the
    factors are those for which it is above 0.
    """
    rows = planes.planes()
    tests = [[] for _ in rows]
    for indexes, factors in ties(planes):
        total = whole_product(spread(planes, indexes, factors), [plane[-1] for plane in rows])
        told = negated(factors) if total < 0 else factors
        above = sum([1 << at for at, a in zip(indexes, told) if a > 0])
        below = sum([1 << at for at, a in zip(indexes, told) if a < 0])
        tests[indexes[-1]].append((above, below, total != 0))
    return tests


def passes(tests, behind, before):
    """Whether no tie of the tests refuses a row, told by the bits of its planes with + and with -."""
    for above, below, strict in tests:
        if strict or (above | below) & (behind | before) != 0:
            if below & behind == 0 and above & before == 0:
                return False
            if not strict and above & behind == 0 and below & before == 0:
                return False
    return True


def shown_rows(planes, choices, limit=None):
    """The list of all rows that are shown and have one of the signs of `choices` at each plane, in order.

    Raises TooLarge if there are more than the limit. With it, the choices must
    leave each row of the first planes some sign at the next one, so that there
    are never fewer rows for more planes.
    """
    found = [("", 0, 0)]
    for at, tests in enumerate(tie_tests(planes)):
        longer = []
        for row, behind, before in found:
            for letter in choices[at]:
                with_plus = behind | (1 << at) if letter == "+" else behind
                with_minus = before | (1 << at) if letter == "-" else before
                # The row of the planes before is shown, so only ties that end here can refuse it.
                if passes(tests, with_plus, with_minus):
                    longer.append((row + letter, with_plus, with_minus))
            if limit is not None and len(longer) > limit:
                raise TooLarge(f"there are more than {limit}")
        found = longer
    return [row for row, _, _ in found]


def rooms(planes):
    """The list of all rooms."""
    return shown_rows(planes, [ROOM_SIGNS] * len(planes), MOST_ROOMS)


def faces(planes):
    """The list of all faces."""
    return shown_rows(planes, [SIGNS] * len(planes), MOST_FACES)


def faces_of_dimension(planes, dimension):
    """The list of all faces with a dimension."""
    if not 0 <= dimension <= planes.n:
        raise BadNumber("a dimension is from 0 to n")
    return [face for face in faces(planes) if dimension_of(planes, face) == dimension]


def dimension_of(planes, face):
    """The dimension of a row that is a face."""
    rows = [row for row, letter in zip(letter_rows(planes), face) if letter == "0"]
    return planes.n - len(whole_echelon(planes.n, rows))


def is_room(planes, row):
    """Whether a row of sides is a room."""
    check_row(planes, row)
    return "0" not in row and is_shown(planes, row)


def check_face(planes, face):
    """Raise NoAnswer if a row of sides is no face."""
    if not is_shown(planes, face):
        raise NoAnswer("a row of sides is no face")


def check_room(planes, room):
    """Raise NoAnswer if a row of sides is no room."""
    if not is_room(planes, room):
        raise NoAnswer("a row of sides is no room")


def check_two_rooms(planes, one, other):
    """Raise NotRow for either row, then NoAnswer for either one that is no room."""
    check_row(planes, one)
    check_row(planes, other)
    check_room(planes, one)
    check_room(planes, other)


def face_dimension(planes, face):
    """The dimension of a face."""
    check_face(planes, face)
    return dimension_of(planes, face)


def put_before(one, other):
    """The product of two rows of one length."""
    return "".join([b if a == "0" else a for a, b in zip(one, other)])


def product_of_rows(planes, one, other):
    """The product of two rows of sides."""
    check_row(planes, one)
    check_row(planes, other)
    return put_before(one, other)


def distance(planes, one, other):
    """The number of the planes that part two rooms."""
    check_two_rooms(planes, one, other)
    return len(parting(planes, one, other))


def beyond(row, at):
    """The row with the other sign at a plane."""
    return row[:at] + TURNED[row[at]] + row[at + 1:]


def walls(planes, room):
    """The tuple of the indexes of the walls of a room."""
    check_room(planes, room)
    return tuple([at for at in range(len(planes)) if is_shown(planes, beyond(room, at))])


def neighbours(planes, room):
    """The list of the neighbours of a room, in the order of the walls."""
    return [beyond(room, at) for at in walls(planes, room)]


def first_step(planes, room, last):
    """The room beyond the wall with the least index of those that part a room from the last one."""
    nearer = [beyond(room, at) for at in parting(planes, room, last)]
    return [step for step in nearer if is_shown(planes, step)][0]


def first_way(planes, one, other):
    """The first of the shortest ways from a room to another one."""
    check_two_rooms(planes, one, other)
    way = [one]
    while way[-1] != other:
        way.append(first_step(planes, way[-1], other))
    return way


def count_ways(planes, one, other):
    """The number of the shortest ways from a room to another one."""
    check_two_rooms(planes, one, other)
    choices = [a if a == b else ROOM_SIGNS for a, b in zip(one, other)]
    between = [(len(parting(planes, one, room)), room) for room in shown_rows(planes, choices)]
    ways = {one: 1}
    for steps, room in sorted(between):
        if steps > 0:
            last_rooms = [beyond(room, at) for at in parting(planes, one, room)]
            ways[room] = sum([ways.get(last, 0) for last in last_rooms])
    return ways[other]


def check_face_and_room(planes, face, room):
    """Raise NotRow for either row, then NoAnswer for the face, then for the room."""
    check_row(planes, face)
    check_row(planes, room)
    check_face(planes, face)
    check_room(planes, room)


def belongs(planes, face, room):
    """Whether a face belongs to a room."""
    check_face_and_room(planes, face, room)
    return put_before(face, room) == room


def faces_of(planes, room):
    """The list of the faces that belong to a room."""
    check_room(planes, room)
    return shown_rows(planes, [letter + "0" for letter in room])


def rooms_at(planes, face):
    """The list of the rooms to which a face belongs."""
    check_face(planes, face)
    return shown_rows(planes, [ROOM_SIGNS if letter == "0" else letter for letter in face])


def decide_bounded(planes, face):
    """("hold", combination) or ("direction", point) for a face."""
    check_face(planes, face)
    rows = letter_rows(planes)
    # A hold may be multiplied until it is at least 1 at + and at most -1 at -: this
    # is its start, and what is added to it mixes to the opposite of the start's sum.
    start = [STARTS[letter] for letter in face]
    target = negated(whole_combination(planes.n, rows, start))
    pairs = factors_at(face)
    columns = [tuple([factor * a for a in rows[at]]) for at, factor in pairs]
    word, told = mixture(columns, target)
    if word == "mixed":
        return ("hold", row_sum(numbers_of(start), combined(len(planes), pairs, told)))
    return ("direction", numbers_of(told))


def is_bounded(planes, face):
    """Whether a face is bounded."""
    return decide_bounded(planes, face)[0] == "hold"


def is_hold(planes, face, combination):
    """Whether a tuple of numbers is a hold of a face."""
    check_face(planes, face)
    if len(combination) != len(planes):
        raise BadNumber("a combination has a number for each plane")
    integers, _ = over_one_divisor(combination)
    if not all([letter == "0" or letter == sign_letter(y) for letter, y in zip(face, integers)]):
        return False
    return not any(whole_combination(planes.n, letter_rows(planes), integers))


def is_direction(planes, face, point):
    """Whether a point is a direction of a face."""
    check_face(planes, face)
    if not is_number_row(planes.n, point):
        raise NotPoint("a point has a number for each letter")
    integers, _ = over_one_divisor(point)
    values = [whole_product(row, integers) for row in letter_rows(planes)]
    fits = [v == 0 if letter == "0" else suits(letter, v) for letter, v in zip(face, values)]
    return all(fits) and any([v != 0 for v in values])

"""Walks on rooms by products of faces: step tables, shares of flats, the rest."""

from planeworth.counting import rooms_number
from planeworth.distances import MOST_TABLE, flats_told
from planeworth.errors import BadNumber, NoAnswer, TooLarge
from planeworth.flats import check_flat
from planeworth.linear import columns_of, kernel_from, matrix_product, unit_row, whole_echelon
from planeworth.numbers import (ONE, ZERO, check_number, cleared, minus, number, over, over_one_divisor, plus,
                                times)
from planeworth.planes import check_row
from planeworth.rooms import check_face, check_room, put_before, rooms

MOST_CHANCES = 12
MOST_CHANCE = 100
MOST_STEPS = 10
MOST_DRAWN = 7


def sum_of_numbers(numbers):
    """The sum of some numbers."""
    total = ZERO
    for x in numbers:
        total = plus(total, x)
    return total


def check_chances(planes, chances):
    """Raise the errors of the first wrong pair, then of all pairs, then TooLarge for more than 60 rooms."""
    for face, x in chances:
        check_row(planes, face)
        check_face(planes, face)
        check_number(x)
    if not 1 <= len(chances) <= MOST_CHANCES:
        raise BadNumber("there are one to twelve chances")
    if len({face for face, _ in chances}) < len(chances):
        raise BadNumber("a face has one chance")
    numbers = [x for _, x in chances]
    if any([x[0] <= 0 for x in numbers]) or sum_of_numbers(numbers) != ONE:
        raise BadNumber("chances are above 0 and add up to 1")
    if any([a > MOST_CHANCE for x in numbers for a in x]):
        raise BadNumber("an integer of a chance is greater than 100")
    if rooms_number(planes) > MOST_TABLE:
        raise TooLarge("there are more than 60 rooms")


def check_steps(k):
    """Raise BadNumber if a number of steps is not from 0 to 10."""
    if not 0 <= k <= MOST_STEPS:
        raise BadNumber("there are 0 to 10 steps")


def chances_to(told, chances, room):
    """The probabilities of all rooms after one step from a room."""
    numbers = {other: ZERO for other in told}
    for face, x in chances:
        other = put_before(face, room)
        numbers[other] = plus(numbers[other], x)
    return tuple([numbers[other] for other in told])


def table_by(told, chances):
    """The step table for all rooms, in order."""
    return [chances_to(told, chances, room) for room in told]


def step_table(planes, chances):
    """The step table."""
    check_chances(planes, chances)
    return table_by(rooms(planes), chances)


def stepped(table, rows, k):
    """Rows of probabilities of all rooms, after k steps."""
    many = len(table)
    for _ in range(k):
        rows = matrix_product(many, rows, many, table)
    return rows


def steps_table(planes, chances, k):
    """The table of k steps."""
    table = step_table(planes, chances)
    check_steps(k)
    many = len(table)
    return stepped(table, [unit_row(many, place) for place in range(many)], k)


def share_of(chances, flat):
    """The sum of the numbers of all faces of the chances that have 0 at some planes."""
    return sum_of_numbers([x for face, x in chances if all([face[at] == "0" for at in flat])])


def share(planes, chances, flat):
    """The share of a flat."""
    check_chances(planes, chances)
    check_flat(planes, flat)
    return share_of(chances, flat)


def ascending(numbers):
    """Different numbers, in ascending order."""
    integers, divisor = over_one_divisor(numbers)
    return [number(a, divisor) for a in sorted(integers)]


def shares(planes, chances):
    """The list of the pairs of a share and how often it counts, ascending."""
    check_chances(planes, chances)
    often = {}
    for flat, _, _, much in flats_told(planes):
        x = share_of(chances, flat)
        often[x] = often.get(x, 0) + abs(much)
    return [(x, often[x]) for x in ascending(list(often))]


def raised(x, k):
    """A number to the power k, by [213] 1 for k = 0."""
    made = ONE
    for _ in range(k):
        made = times(made, x)
    return made


def diagonal_sum(planes, chances, k):
    """What the table of k steps has for each room and itself, added up, told by flats."""
    pairs = shares(planes, chances)
    check_steps(k)
    return sum_of_numbers([times((many, 1), raised(x, k)) for x, many in pairs])


def check_walk(planes, chances, room, k):
    """Raise the errors of the chances, then those of the room, then BadNumber for k."""
    check_chances(planes, chances)
    check_room(planes, room)
    check_steps(k)


def after_steps(planes, chances, room, k):
    """The probabilities of all rooms after k steps from a room."""
    told = rooms(planes)
    return stepped(table_by(told, chances), [unit_row(len(told), told.index(room))], k)[0]


def after(planes, chances, room, k):
    """The tuple of the probabilities of all rooms after k steps from a room."""
    check_walk(planes, chances, room, k)
    return after_steps(planes, chances, room, k)


def reach_all(planes, chances):
    """Whether each plane has some face of the chances without 0 there."""
    return all([any([face[at] != "0" for face, _ in chances]) for at in range(len(planes))])


def reaches(planes, chances):
    """Whether the chances reach all planes."""
    check_chances(planes, chances)
    return reach_all(planes, chances)


def check_reaches(planes, chances):
    """Raise NoAnswer if the chances do not reach all planes."""
    if not reach_all(planes, chances):
        raise NoAnswer("the chances do not reach all planes")


def only_rest(planes, chances):
    """The rest for chances that reach all planes."""
    table = table_by(rooms(planes), chances)
    many = len(table)
    # What steps do not change is 0 with each column of the table less 1 for a room and itself.
    changes = [cleared([minus(x, unit) for x, unit in zip(column, unit_row(many, place))])
               for place, column in enumerate(columns_of(many, table))]
    row = kernel_from(many, whole_echelon(many, changes))[0]
    total = sum_of_numbers(row)
    return tuple([over(x, total) for x in row])


def rest(planes, chances):
    """The rest."""
    check_chances(planes, chances)
    # Beside a plane that is not reached the rooms keep their sides, so each side has a rest.
    check_reaches(planes, chances)
    return only_rest(planes, chances)


def is_rest(planes, chances, numbers):
    """Whether a tuple of numbers is a rest."""
    table = step_table(planes, chances)
    if len(numbers) != len(table):
        raise BadNumber("there is a number for each room")
    for x in numbers:
        check_number(x)
    if any([x[0] < 0 for x in numbers]) or sum_of_numbers(numbers) != ONE:
        return False
    return stepped(table, [numbers], 1) == [numbers]


def drawn_rows(many, chances):
    """The dict of the products of all faces, drawn one after the other, with their probabilities."""
    if len(chances) == 0:
        return {"0" * many: ONE}
    total = sum_of_numbers([x for _, x in chances])
    found = {}
    for at, (face, x) in enumerate(chances):
        left = drawn_rows(many, chances[:at] + chances[at + 1:])
        for row in left:
            made = put_before(face, row)
            found[made] = plus(found.get(made, ZERO), times(over(x, total), left[row]))
    return found


def drawn(planes, chances):
    """The tuple of the probabilities with which drawing all faces makes the rooms."""
    check_chances(planes, chances)
    check_reaches(planes, chances)
    if len(chances) > MOST_DRAWN:
        raise TooLarge("there are more than 7 faces")
    found = drawn_rows(len(planes), chances)
    return tuple([found.get(room, ZERO) for room in rooms(planes)])


def away(planes, chances, room, k):
    """The sum of the amounts of the differences between the probabilities after k steps and the rest."""
    check_walk(planes, chances, room, k)
    check_reaches(planes, chances)
    found = after_steps(planes, chances, room, k)
    changes = [minus(x, y) for x, y in zip(found, only_rest(planes, chances))]
    return sum_of_numbers([(abs(a), b) for a, b in changes])


def away_bound(planes, chances, k):
    """The bound for `away` after k steps."""
    check_chances(planes, chances)
    check_steps(k)
    check_reaches(planes, chances)
    powers = [raised(share_of(chances, (at,)), k) for at in range(len(planes))]
    return times((2, 1), sum_of_numbers(powers))

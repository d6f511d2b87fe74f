"""The table of distances by tolls: its determinant, told by flats, its rank, numbers that it loses."""

from planeworth.counting import rooms_number
from planeworth.errors import BadNumber, NoAnswer, TooLarge
from planeworth.flats import bits_of, check_flat, web_by_rank, weights_from
from planeworth.linear import kernel_from, whole_echelon, whole_product
from planeworth.numbers import ONE, ZERO, check_number, cleared, minus, over_one_divisor, times
from planeworth.planes import parting
from planeworth.rooms import rooms

MOST_TOLL = 100
MOST_TABLE = 60


def check_tolls(planes, tolls):
    """Raise the errors of tolls, then TooLarge if there are more than 60 rooms."""
    if len(tolls) != len(planes):
        raise BadNumber("there is a toll for each plane")
    for x in tolls:
        check_number(x)
    if any([abs(a) > MOST_TOLL for x in tolls for a in x]):
        raise BadNumber("an integer of a toll is not from -100 to 100")
    if rooms_number(planes) > MOST_TABLE:
        raise TooLarge("there are more than 60 rooms")


def toll_between(planes, tolls, one, other):
    """The product of the tolls of the planes that part two rooms."""
    made = ONE
    for at in parting(planes, one, other):
        made = times(made, tolls[at])
    return made


def toll_table(planes, tolls):
    """The table of tolls."""
    check_tolls(planes, tolls)
    told = rooms(planes)
    return [tuple([toll_between(planes, tolls, one, other) for other in told]) for one in told]


def flats_told(planes):
    """The list of the tuples of a flat, its bits, its rank and its weight."""
    pairs = [(flat, rank) for rank, level in enumerate(web_by_rank(planes)) for flat in level]
    weights = weights_from([bits_of(flat) for flat, _ in pairs], 0)
    return [(flat, bits, rank, much) for (flat, rank), (bits, much) in zip(pairs, weights)]


def inner_number(told, bits):
    """The inner number of the flat with some bits, by what is told of all flats."""
    within = [(rank, much) for _, other, rank, much in told if other & bits == other]
    most = within[-1][0]
    return abs(sum([much * (most - rank) for rank, much in within]))


def exponent_of(told, bits):
    """The exponent of the flat with some bits."""
    inner = inner_number(told, bits)
    if inner == 0:
        return 0
    # The faces that have 0 at its planes alone are the rooms of the other planes within it.
    return inner * sum([abs(much) for _, much in weights_from([other for _, other, _, _ in told], bits)])


def flat_inner(planes, flat):
    """The inner number of a flat."""
    check_flat(planes, flat)
    return inner_number(flats_told(planes), bits_of(flat))


def comes_apart(planes, flat):
    """Whether a flat comes apart."""
    # [192]: of all flats but (), just these have the inner number 0.
    return flat_inner(planes, flat) == 0 and flat != ()


def flat_exponent(planes, flat):
    """The exponent of a flat."""
    check_flat(planes, flat)
    return exponent_of(flats_told(planes), bits_of(flat))


def flat_exponents(planes):
    """The list of the pairs of a flat and its exponent, where this is not 0."""
    told = flats_told(planes)
    pairs = [(flat, exponent_of(told, bits)) for flat, bits, _, _ in told]
    return [(flat, exponent) for flat, exponent in pairs if exponent != 0]


def toll_determinant(planes, tolls):
    """The determinant of the table, told by flats."""
    check_tolls(planes, tolls)
    made = ONE
    for flat, exponent in flat_exponents(planes):
        square = ONE
        for at in flat:
            square = times(square, times(tolls[at], tolls[at]))
        factor = minus(ONE, square)
        for _ in range(exponent):
            made = times(made, factor)
    return made


def table_echelon(planes, tolls):
    """The number of the rooms, and the whole echelon form of the table."""
    rows = [cleared(row) for row in toll_table(planes, tolls)]
    return len(rows), whole_echelon(len(rows), rows)


def toll_rank(planes, tolls):
    """The rank of the table."""
    if toll_determinant(planes, tolls) != ZERO:
        return rooms_number(planes)
    _, found = table_echelon(planes, tolls)
    return len(found)


def lost_numbers(planes, tolls):
    """Lost numbers: one for each room, not all 0, whose product with each row of the table is 0."""
    if toll_determinant(planes, tolls) != ZERO:
        raise NoAnswer("the determinant of the table is not 0")
    many, found = table_echelon(planes, tolls)
    return kernel_from(many, found)[0]


def is_lost_numbers(planes, tolls, numbers):
    """Whether a tuple of numbers is lost."""
    table = toll_table(planes, tolls)
    if len(numbers) != len(table):
        raise BadNumber("there is a number for each room")
    integers, _ = over_one_divisor(numbers)
    return any(integers) and all([whole_product(cleared(row), integers) == 0 for row in table])

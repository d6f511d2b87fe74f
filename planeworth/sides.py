"""Rows of sides that are shown by a point, or refused by a combination."""

from itertools import combinations

from planeworth.errors import BadNumber, NoAnswer
from planeworth.linear import kernel_from, whole_combination, whole_echelon
from planeworth.mixtures import mixture
from planeworth.numbers import ZERO, cleared, negated, number, over_one_divisor, plus, times
from planeworth.planes import check_row, letter_rows, row_of


def shows(planes, row, point):
    """Whether a point shows a row of sides."""
    check_row(planes, row)
    return row_of(planes, point) == row


def refuses(planes, row, combination):
    """Whether a combination refuses a row of sides."""
    check_row(planes, row)
    if len(combination) != len(planes):
        raise BadNumber("a combination has a number for each plane")
    integers, _ = over_one_divisor(combination)
    return whole_refuses(planes, row, integers)


def suits(letter, y):
    """Whether the integer of a plane may stand at a sign of a row."""
    return letter == "0" or (letter == "+" and y >= 0) or (letter == "-" and y <= 0)


def whole_refuses(planes, row, integers):
    """Whether integers, one for each plane, refuse a row of sides."""
    if not all([suits(letter, y) for letter, y in zip(row, integers)]):
        return False
    sums = whole_combination(planes.n + 1, planes.planes(), integers)
    if any(sums[:-1]) or sums[-1] < 0:
        return False
    return sums[-1] > 0 or any([letter != "0" and y != 0 for letter, y in zip(row, integers)])


def factors_at(row):
    """The list of the pairs of an index and 1 or -1 that a row of sides lets into a combination.

    The amounts of a mixture are not below 0, so `0` lets both into it.
    """
    pairs = []
    for at, letter in enumerate(row):
        if letter != "-":
            pairs.append((at, 1))
        if letter != "+":
            pairs.append((at, -1))
    return pairs


def combined(many, pairs, amounts):
    """The combination for so many planes that the amounts of a mixture are."""
    combination = [ZERO] * many
    for (at, factor), amount in zip(pairs, amounts):
        combination[at] = plus(combination[at], times((factor, 1), amount))
    return tuple(combination)


def column_of(plane, factor, letter):
    """The integers of a plane, multiplied by a factor, and 1 behind them if its sign is not `0`."""
    return tuple([factor * a for a in plane]) + (0 if letter == "0" else 1,)


def decide_row(planes, row):
    """("shown", point) or ("refused", combination) for a row of sides."""
    check_row(planes, row)
    n = planes.n
    rows = planes.planes()
    pairs = factors_at(row)
    # A combination that refuses the row, divided by what must not be 0, mixes to this
    # target, together with the sum for b as the amount of the last column.
    columns = [column_of(rows[at], factor, row[at]) for at, factor in pairs]
    word, told = mixture(columns + [(0,) * n + (-1, 1)], (0,) * (n + 1) + (1,))
    if word == "mixed":
        return ("refused", combined(len(planes), pairs, told[:-1]))
    # The products with the last column and with the target tell that told[n] is below 0.
    return ("shown", tuple([number(-a, told[n]) for a in told[:n]]))


def is_shown(planes, row):
    """Whether some point shows a row of sides."""
    return decide_row(planes, row)[0] == "shown"


def point_of(planes, row):
    """A point that shows a row of sides."""
    word, told = decide_row(planes, row)
    if word != "shown":
        raise NoAnswer("the row is refused")
    return told


def refusal(planes, row):
    """A combination that refuses a row of sides."""
    word, told = decide_row(planes, row)
    if word != "refused":
        raise NoAnswer("the row is shown")
    return told


def tie_factors(rows):
    """The factors of some rows a1, .., an, or None if they are no tie."""
    many = len(rows)
    found = whole_echelon(many, [[row[k] for row in rows] for k in range(len(rows[0]))])
    basis = kernel_from(many, found)
    if len(basis) != 1 or ZERO in basis[0]:
        return None
    factors = cleared(basis[0])
    if factors[0] < 0:
        return negated(factors)
    return factors


def ties(planes):
    """The list of all ties, pairs of the indexes and the factors."""
    rows = letter_rows(planes)
    found = []
    for size in range(2, planes.n + 2):
        for indexes in combinations(range(len(rows)), size):
            factors = tie_factors([rows[at] for at in indexes])
            if factors is not None:
                found.append((indexes, factors))
    return found


def spread(planes, indexes, factors):
    """The factors at the planes of a tie and 0 at all others."""
    integers = [0] * len(planes)
    for at, a in zip(indexes, factors):
        integers[at] = a
    return integers


def refusing_ties(planes, row):
    """The list of the pairs of a tie's indexes and its factors, or these multiplied by -1, that refuse a row."""
    check_row(planes, row)
    found = []
    for indexes, factors in ties(planes):
        for told in (factors, negated(factors)):
            if whole_refuses(planes, row, spread(planes, indexes, told)):
                found.append((indexes, told))
    return found


def refused_part(planes, row):
    """The indexes of the first part of a row that is not shown."""
    found = refusing_ties(planes, row)
    if len(found) == 0:
        raise NoAnswer("the row is shown")
    # Some tie refuses each part that is not shown, and is refused itself: the first
    # tie that refuses the row is the first of its parts that are not shown.
    return found[0][0]

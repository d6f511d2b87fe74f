"""The web of meets: flats, their spans and meets, their weights."""

from planeworth.errors import NoAnswer, NotFlat
from planeworth.linear import struck, whole_echelon
from planeworth.numbers import negated
from planeworth.planes import ascends, check_index, letter_rows


def check_each_index(planes, indexes):
    """Raise BadNumber if an index is none of the list; the order of the indexes is free."""
    for at in indexes:
        check_index(planes, at)


def meeting(planes, indexes):
    """The whole echelon form of the equations of some planes, or None if they do not meet."""
    check_each_index(planes, indexes)
    rows = planes.planes()
    found = whole_echelon(planes.n + 1, [rows[at] for at in indexes])
    if any([pivot == planes.n for pivot, _ in found]):
        return None
    return found


def meets(planes, indexes):
    """Whether some planes meet."""
    return meeting(planes, indexes) is not None


def rank_of(planes, indexes):
    """The rank of some planes."""
    check_each_index(planes, indexes)
    rows = letter_rows(planes)
    return len(whole_echelon(planes.n, [rows[at] for at in indexes]))


def left_over(row, found):
    """What is left of a row that is struck by all rows of a whole echelon form."""
    left = row
    for pivot, by in found:
        left = struck(left, by, pivot)
    return left


def flat_or_none(planes, indexes):
    """The flat of some planes, or None if they do not meet."""
    found = meeting(planes, indexes)
    if found is None:
        return None
    # A plane contains all common points exactly if its equation is made of theirs.
    return tuple([at for at, row in enumerate(planes.planes())
                  if all([a == 0 for a in left_over(row, found)])])


def flat_of(planes, indexes):
    """The flat of some planes."""
    flat = flat_or_none(planes, indexes)
    if flat is None:
        raise NoAnswer("the planes do not meet")
    return flat


def first_above_zero(row):
    """The row, or the row multiplied by -1, whose first integer other than 0 is above 0."""
    first = [a for a in row if a != 0][0]
    return row if first > 0 else negated(row)


def next_flats(planes, flat):
    """The list of the flats within a flat whose rank is greater by 1."""
    found = meeting(planes, flat)
    groups = {}
    for at, row in enumerate(planes.planes()):
        left = left_over(row, found)
        # Planes of which the same is left have the same points in common with the flat;
        # those of which only b is left have none.
        if any([a != 0 for a in left[:-1]]):
            groups.setdefault(first_above_zero(left), []).append(at)
    return [tuple(sorted(list(flat) + group)) for group in groups.values()]


def web_by_rank(planes):
    """The lists of the flats of the ranks 0, 1, .., each in order."""
    levels = [[()]]
    while len(levels[-1]) > 0:
        fresh = {}
        for flat in levels[-1]:
            for further in next_flats(planes, flat):
                fresh[further] = True
        levels.append(sorted(fresh))
    return levels[:-1]


def web(planes):
    """The list of all flats."""
    return [flat for level in web_by_rank(planes) for flat in level]


def is_flat(planes, flat):
    """Whether an ascending tuple of integers is a flat."""
    if not ascends(flat) or any([not 0 <= at < len(planes) for at in flat]):
        return False
    return flat_or_none(planes, flat) == flat


def check_flat(planes, flat):
    """Raise NotFlat if a tuple is no flat."""
    if not is_flat(planes, flat):
        raise NotFlat("a tuple is no flat of the list")


def flat_dimension(planes, flat):
    """The dimension of a flat."""
    check_flat(planes, flat)
    return planes.n - rank_of(planes, flat)


def span_of(planes, one, other):
    """The span of two flats."""
    check_flat(planes, one)
    check_flat(planes, other)
    return tuple([at for at in one if at in other])


def meet_of(planes, one, other):
    """The meet of two flats, or None."""
    check_flat(planes, one)
    check_flat(planes, other)
    return flat_or_none(planes, one + other)


def bits_of(flat):
    """The indexes of a flat as the bits of an integer."""
    return sum([1 << at for at in flat])


def weights_from(flats_bits, first):
    """The list of the pairs of the bits of a flat within a first one and its weight from this one.

    The flats are told by their bits, in the order of the web.
    """
    weights = []
    for bits in flats_bits:
        if bits & first == first:
            less = sum([much for other, much in weights if other & bits == other])
            weights.append((bits, 1 if bits == first else -less))
    return weights


def weight(planes, flat, start=()):
    """The weight of a flat from another one."""
    check_flat(planes, flat)
    check_flat(planes, start)
    if any([at not in flat for at in start]):
        raise NoAnswer("the flat is not within the other one")
    # All flats that this flat is within are made of its own planes.
    own = planes.only(flat)
    first = bits_of([flat.index(at) for at in start])
    return weights_from([bits_of(told) for told in web(own)], first)[-1][1]

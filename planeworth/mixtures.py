"""Columns of integers mixed in amounts not below 0 to a target, or a row that shows that this fails.

The way to the answer is the simplex method. Its table is kept in integers over
one common scale, so that each entry is a determinant of a part of the table at
the beginning: the integers of an answer stay small.
"""

from planeworth.numbers import ZERO, number


def first_table(columns, target, turns):
    """The rows of the table, and the row of costs as the last one.

    Each row has the entries of the columns, then those of one helper for each
    row, then that of the target. The cost is what the helpers amount to.
    """
    height = len(target)
    table = []
    for k in range(height):
        entries = [turns[k] * column[k] for column in columns]
        helpers = [1 if k == j else 0 for j in range(height)]
        table.append(entries + helpers + [turns[k] * target[k]])
    costs = [-sum([row[place] for row in table]) for place in range(len(columns))]
    total = -sum([row[-1] for row in table])
    return table + [costs + [0] * height + [total]]


def entering(table, many):
    """The first of the columns whose cost is below 0, or None."""
    for place in range(many):
        if table[-1][place] < 0:
            return place
    return None


def leaving(table, base, place):
    """The row that first stops the column at a place from growing.

    Of several the one with the least number in the base: with the first
    column that enters, this keeps the method from going round for ever.
    """
    best = None
    for k in range(len(base)):
        if table[k][place] > 0:
            if best is None:
                best = k
            else:
                here = table[k][-1] * table[best][place]
                there = table[best][-1] * table[k][place]
                if here < there or (here == there and base[k] < base[best]):
                    best = k
    return best


def pivoted(table, scale, at, place):
    """The table after the column at a place has taken the row `at`; all divisions are exact."""
    by = table[at]
    much = by[place]
    fresh = []
    for k, row in enumerate(table):
        if k == at:
            fresh.append(row)
        else:
            less = row[place]
            fresh.append([(much * a - less * b) // scale for a, b in zip(row, by)])
    return fresh


def amounts_of(table, base, scale, many):
    """The tuple of the amounts of the columns."""
    amounts = [ZERO] * many
    for k, place in enumerate(base):
        if place < many:
            amounts[place] = number(table[k][-1], scale)
    return tuple(amounts)


def mixture(columns, target):
    """Mix columns to a target, all of them tuples of integers of one length.

    The answer is ("mixed", amounts) with numbers not below 0, one for each
    column, for which the columns add up to the target; or ("parted", row) with
    a tuple of integers whose product with no column is below 0, but with the
    target is.
    """
    many = len(columns)
    height = len(target)
    turns = [-1 if a < 0 else 1 for a in target]
    table = first_table(columns, target, turns)
    base = [many + k for k in range(height)]
    scale = 1
    place = entering(table, many)
    while place is not None:
        at = leaving(table, base, place)
        table = pivoted(table, scale, at, place)
        scale = table[at][place]
        base[at] = place
        place = entering(table, many)
    if table[-1][-1] == 0:
        return ("mixed", amounts_of(table, base, scale, many))
    return ("parted", tuple([turns[k] * (table[-1][many + k] - scale) for k in range(height)]))

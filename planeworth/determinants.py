"""Signs of determinants: the laws that those of planes obey, and the least faces that they tell."""

from planeworth.errors import BadNumber, NoAnswer, NotSigns
from planeworth.linear import index_choices, whole_determinant
from planeworth.planes import MOST_LETTERS, SIGNS, TURNED, letter_rows, sign_letter
from planeworth.products import order_sign
from planeworth.signrows import check_few_planes, check_sign_number, turned_row

UNITS = {"+": 1, "-": -1, "0": 0}


def check_signs(k, r, signs):
    """Raise BadNumber for k, then for r, then NotSigns if a string has not a sign for each choice."""
    check_sign_number(k)
    if not 1 <= r <= MOST_LETTERS or r > k:
        raise BadNumber("r is from 1 to 4 and at most k")
    if len(signs) != len(index_choices(k, r)) or not all([letter in SIGNS for letter in signs]):
        raise NotSigns("a string has not a sign for each ascending tuple")


def table_of(k, r, signs):
    """The dict of the signs by the ascending tuples of indexes."""
    return {indexes: letter for indexes, letter in zip(index_choices(k, r), signs)}


def sign_in(table, indexes):
    """The sign of a tuple of indexes in any order."""
    ordered = tuple(sorted(indexes))
    if ordered not in table:
        return "0"
    letter = table[ordered]
    return TURNED[letter] if order_sign(indexes) < 0 else letter


def sign_of(k, r, signs, indexes):
    """The sign of a tuple of r indexes, in any order."""
    check_signs(k, r, signs)
    if len(indexes) != r or any([not 0 <= at < k for at in indexes]):
        raise BadNumber("there are not r of the k indexes")
    return sign_in(table_of(k, r, signs), indexes)


def base_fault(table):
    """The first fault of two bases, or None."""
    bases = [indexes for indexes in table if table[indexes] != "0"]
    for b in bases:
        for c in bases:
            for i in b:
                if i not in c:
                    others = [tuple(sorted([j if at == i else at for at in b])) for j in c if j not in b]
                    if all([table[other] == "0" for other in others]):
                        return ("base", b, c, i)
    return None


def exchange_parts(table, x, y):
    """The three products of signs of [176], as 1, -1 and 0."""
    a, b, c, d = y
    values = []
    for one, other, turn in (((a, b), (c, d), 1), ((a, c), (b, d), -1), ((a, d), (b, c), 1)):
        values.append(turn * UNITS[sign_in(table, x + one)] * UNITS[sign_in(table, x + other)])
    return values


def swap_fault(k, r, table):
    """The first fault of four indexes beside r - 2 ones, or None."""
    if r == 1:
        return None
    for x in index_choices(k, r - 2):
        for y in index_choices(k, 4):
            if not any([at in x for at in y]):
                values = exchange_parts(table, x, y)
                if (1 in values) != (-1 in values):
                    return ("exchange", x, y)
    return None


def exchange_fault(k, r, signs):
    """The first fault of signs of determinants, or None."""
    check_signs(k, r, signs)
    table = table_of(k, r, signs)
    if all([letter == "0" for letter in signs]):
        return ("zero",)
    return base_fault(table) or swap_fault(k, r, table)


def least_of(k, r, signs):
    """The ascending list of the rows that signs of determinants tell as least faces."""
    check_signs(k, r, signs)
    table = table_of(k, r, signs)
    found = {}
    for indexes in index_choices(k, r - 1):
        row = "".join([sign_in(table, indexes + (at,)) for at in range(k)])
        if row != "0" * k:
            found[row] = True
            found[turned_row(row)] = True
    return sorted(found)


def signs_of(planes):
    """The signs of determinants of planes at the origin."""
    check_few_planes(planes)
    if planes.rank() < planes.n:
        raise NoAnswer("the rank is less than the number of letters")
    rows = letter_rows(planes)
    return "".join([sign_letter(whole_determinant([rows[at] for at in indexes]))
                    for indexes in index_choices(len(rows), planes.n)])

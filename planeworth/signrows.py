"""Lists of sign rows: their faults, closures, rows that stand apart, circuits."""

from planeworth.derivations import check_origin
from planeworth.errors import BadNumber, NotSigns, TooLarge
from planeworth.planes import SIGNS, TURNED, ascends, sign_letter
from planeworth.rooms import put_before
from planeworth.sides import spread, ties

MOST_SIGNS = 7
MOST_FAULT_ROWS = 80


def check_sign_number(k):
    """Raise BadNumber if there are not 1 to 7 signs."""
    if not 1 <= k <= MOST_SIGNS:
        raise BadNumber("a sign row has 1 to 7 signs")


def is_sign_row(row):
    """Whether a string is a sign row."""
    return 1 <= len(row) <= MOST_SIGNS and all([letter in SIGNS for letter in row])


def is_sign_list(rows):
    """Whether a list of strings is a list of sign rows."""
    return (all([is_sign_row(row) for row in rows]) and all([len(row) == len(rows[0]) for row in rows])
            and ascends(rows))


def check_sign_list(rows):
    """Raise NotSigns if a list of strings is no list of sign rows."""
    if not is_sign_list(rows):
        raise NotSigns("strings are no list of sign rows")


def check_list_of(k, rows):
    """Raise BadNumber for k, then NotSigns if strings are no list of sign rows with k signs."""
    check_sign_number(k)
    check_sign_list(rows)
    if len(rows) > 0 and len(rows[0]) != k:
        raise NotSigns("the rows have another number of signs")


def check_two_signs(one, other):
    """Raise NotSigns if two strings are no sign rows of one length."""
    if not is_sign_row(one) or not is_sign_row(other) or len(one) != len(other):
        raise NotSigns("two strings are no sign rows of one length")


def put_behind(one, two):
    """The first row with the second one behind it."""
    check_two_signs(one, two)
    return put_before(one, two)


def parted_places(one, two):
    """The list of the places where two rows have opposite signs."""
    return [at for at, letter in enumerate(one) if letter != "0" and two[at] == TURNED[letter]]


def opposites(one, two):
    """The ascending list of the places where two rows have opposite signs."""
    check_two_signs(one, two)
    return parted_places(one, two)


def stand_apart(one, two):
    """Whether two rows stand apart."""
    check_two_signs(one, two)
    return are_apart(bits_of_row(one), bits_of_row(two))


def turned_row(row):
    """The row with all signs turned to their opposites."""
    return "".join([TURNED[letter] for letter in row])


def bits_of_row(row):
    """The places of a row with + and those with -, as the bits of two integers."""
    behind = sum([1 << at for at, letter in enumerate(row) if letter == "+"])
    before = sum([1 << at for at, letter in enumerate(row) if letter == "-"])
    return behind, before


def are_apart(one, two):
    """Whether two rows, told by their bits, stand apart."""
    same = (one[0] & two[0]) | (one[1] & two[1])
    other = (one[0] & two[1]) | (one[1] & two[0])
    return (same != 0) == (other != 0)


def zero_fault(rows):
    """The fault of a list without the zero row, or None."""
    if len(rows) == 0 or rows[-1] != "0" * len(rows[-1]):
        return ("zero",)
    return None


def turn_fault(rows):
    """The first fault of a row whose opposite is missing, or None."""
    known = {row: True for row in rows}
    for x in rows:
        if turned_row(x) not in known:
            return ("turn", x)
    return None


def behind_fault(rows):
    """The first fault of two rows of which the first one, with the second one behind it, is missing; or None."""
    known = {row: True for row in rows}
    for x in rows:
        for y in rows:
            if put_before(x, y) not in known:
                return ("behind", x, y)
    return None


def between_fault(rows):
    """The first fault of two rows between which a row is missing, or None."""
    told = [bits_of_row(row) for row in rows]
    for x in rows:
        for y in rows:
            places = parted_places(x, y)
            behind, before = bits_of_row(put_before(x, y))
            other = sum([1 << at for at in places])
            # The rows that are right at all places where x and y do not have opposite signs.
            fits = [plus | minus for plus, minus in told if plus & ~other == behind & ~other
                    and minus & ~other == before & ~other]
            for i in places:
                if all([bits >> i & 1 == 1 for bits in fits]):
                    return ("between", x, y, i)
    return None


def row_fault(rows):
    """The first fault of a list of sign rows, or None."""
    check_sign_list(rows)
    if len(rows) > MOST_FAULT_ROWS:
        raise TooLarge("there are more than 80 rows")
    return zero_fault(rows) or turn_fault(rows) or behind_fault(rows) or between_fault(rows)


def signed_places(row):
    """The places of a row with signs other than 0, as bits."""
    behind, before = bits_of_row(row)
    return behind | before


def least_rows(rows):
    """The ascending list of the least rows."""
    check_sign_list(rows)
    every = sorted({signed_places(row) for row in rows})
    least = {places: True for places in every if places != 0
             and not any([other & places == other for other in every if other != 0 and other != places])}
    return [row for row in rows if signed_places(row) in least]


def row_closure(k, rows):
    """The ascending list of the closure."""
    check_list_of(k, rows)
    found = {"0" * k: True}
    makers = []
    # Rows with few signs go first, as they make most of the others: few makers are left.
    for _, row in sorted([(-row.count("0"), row) for row in rows]):
        if row not in found:
            makers.append(row)
            left = [put_before(one, row) for one in found]
            while len(left) > 0:
                one = left.pop()
                if one not in found:
                    found[one] = True
                    left.extend([put_before(one, maker) for maker in makers])
    return sorted(found)


def all_sign_rows(k):
    """The ascending list of all rows of k signs."""
    found = [""]
    for _ in range(k):
        found = [row + letter for row in found for letter in SIGNS]
    return found


def apart_from(k, rows):
    """The ascending list of all rows of k signs that stand apart from all rows of a list."""
    check_list_of(k, rows)
    told = [bits_of_row(row) for row in rows]
    found = []
    for row in all_sign_rows(k):
        own = bits_of_row(row)
        if all([are_apart(own, other) for other in told]):
            found.append(row)
    return found


def rows_of_rooms(k, rooms):
    """The ascending list of all rows of k signs that, with each row of a list behind them, are in the list."""
    check_list_of(k, rooms)
    known = {row: True for row in rooms}
    return [row for row in all_sign_rows(k) if all([put_before(row, room) in known for room in rooms])]


def check_few_planes(planes):
    """Raise NotPlanes if a plane is not at the origin, then BadNumber if there are not 1 to 7 planes."""
    check_origin(planes)
    check_sign_number(len(planes))


def sign_circuits(planes):
    """The ascending list of the sign rows of all circuits."""
    check_few_planes(planes)
    found = []
    for indexes, factors in ties(planes):
        row = "".join([sign_letter(a) for a in spread(planes, indexes, factors)])
        found.extend([row, turned_row(row)])
    return sorted(found)

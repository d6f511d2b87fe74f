"""Polynomials with integers: sums, products, slopes, values, quotients, determinants."""

from planeworth.errors import BadNumber, NoAnswer, NotPlanes, NotPoly, TooLarge
from planeworth.numbers import number, over_one_divisor
from planeworth.planes import check_letters, check_point, is_plane

MOST_DEGREE = 12


def is_poly(n, one):
    """Whether a tuple of terms is a polynomial of n letters."""
    check_letters(n)
    for powers, a in one:
        if len(powers) != n or any([k < 0 for k in powers]) or sum(powers) > MOST_DEGREE or a == 0:
            return False
    return all([term[0] < after[0] for term, after in zip(one, one[1:])])


def check_poly(n, one):
    """Raise BadNumber for n, then NotPoly if the terms are no polynomial."""
    if not is_poly(n, one):
        raise NotPoly("terms are no polynomial")


def poly_of(found):
    """The polynomial with the integers of a dict, by their powers."""
    return tuple([(powers, found[powers]) for powers in sorted(found) if found[powers] != 0])


def degree_of(one):
    """The greatest degree of a term, 0 if there is none."""
    return max([sum(powers) for powers, _ in one], default=0)


def added(one, two, factor):
    """The first polynomial and the second one, multiplied by an integer, added up."""
    found = {powers: a for powers, a in one}
    for powers, a in two:
        found[powers] = found.get(powers, 0) + factor * a
    return poly_of(found)


def poly_sum(n, one, two):
    """The sum of two polynomials."""
    check_poly(n, one)
    check_poly(n, two)
    return added(one, two, 1)


def product_of(one, two):
    """The product of two polynomials, whatever its degree."""
    found = {}
    for powers, a in one:
        for others, b in two:
            both = tuple([k + j for k, j in zip(powers, others)])
            found[both] = found.get(both, 0) + a * b
    return poly_of(found)


def check_degrees(one, two):
    """Raise TooLarge if the product of two polynomials would have a degree above 12."""
    if len(one) > 0 and len(two) > 0 and degree_of(one) + degree_of(two) > MOST_DEGREE:
        raise TooLarge("a term would have a degree above 12")


def poly_product(n, one, two):
    """The product of two polynomials."""
    check_poly(n, one)
    check_poly(n, two)
    check_degrees(one, two)
    return product_of(one, two)


def poly_times(n, one, factor):
    """A polynomial, multiplied by an integer."""
    check_poly(n, one)
    return added((), one, factor)


def put_power(powers, index, k):
    """The powers with another one of a letter."""
    return powers[:index] + (k,) + powers[index + 1:]


def slope_of(one, index):
    """The slope of a polynomial by a letter."""
    return poly_of({put_power(powers, index, powers[index] - 1): powers[index] * a
                    for powers, a in one if powers[index] > 0})


def slope(n, one, index):
    """The slope of a polynomial by the letter with an index."""
    check_poly(n, one)
    if not 0 <= index < n:
        raise BadNumber("an index is that of no letter")
    return slope_of(one, index)


def power_list(a):
    """The powers 0 to 12 of an integer."""
    found = [1]
    for _ in range(MOST_DEGREE):
        found.append(found[-1] * a)
    return found


def poly_value(n, one, point):
    """The number that a polynomial has at a point."""
    check_poly(n, one)
    check_point(n, point)
    integers, divisor = over_one_divisor(point)
    tables = [power_list(a) for a in integers]
    below = power_list(divisor)
    value = 0
    for powers, a in one:
        for k, table in zip(powers, tables):
            a = a * table[k]
        value = value + a * below[MOST_DEGREE - sum(powers)]
    return number(value, below[MOST_DEGREE])


def letter_power(n, index):
    """The powers of a letter alone."""
    return put_power((0,) * n, index, 1)


def check_origin_plane(n, plane):
    """Raise NotPlanes if a tuple is no plane at the origin."""
    if not is_plane(n, plane) or plane[n] != 0:
        raise NotPlanes("a tuple is no plane at the origin")


def plane_form(n, plane):
    """The form of a plane at the origin."""
    check_letters(n)
    check_origin_plane(n, plane)
    return poly_of({letter_power(n, k): plane[k] for k in range(n)})


def divided(one, form):
    """The polynomial that makes another one, multiplied by a form; None if there is none with integers."""
    # The greatest term of a product is the product of the greatest terms.
    first, by = form[-1]
    left = one
    found = []
    while len(left) > 0:
        powers, a = left[-1]
        less = tuple([k - j for k, j in zip(powers, first)])
        if min(less) < 0 or a % by != 0:
            return None
        found.append((less, a // by))
        left = added(left, product_of(found[-1:], form), -1)
    return tuple(reversed(found))


def quotient(n, one, plane):
    """The polynomial that makes another one, multiplied by the form of a plane."""
    check_poly(n, one)
    found = divided(one, plane_form(n, plane))
    if found is None:
        raise NoAnswer("the form does not divide the polynomial")
    return found


def check_poly_rows(n, rows):
    """Raise NotPoly if rows are not n tuples of n polynomials."""
    check_letters(n)
    if len(rows) != n or any([len(row) != n for row in rows]):
        raise NotPoly("there are not n tuples of n polynomials")
    for row in rows:
        for one in row:
            check_poly(n, one)


def expanded(n, rows, places):
    """The determinant of the last rows at some places, as many as these."""
    if len(places) == 0:
        return (((0,) * n, 1),)
    row = rows[len(rows) - len(places)]
    total = ()
    turn = 1
    for k, place in enumerate(places):
        if len(row[place]) > 0:
            smaller = expanded(n, rows, places[:k] + places[k + 1:])
            total = added(total, product_of(row[place], smaller), turn)
        turn = -turn
    return total


def poly_determinant(n, rows):
    """The determinant of n tuples of n polynomials."""
    check_poly_rows(n, rows)
    if sum([max([degree_of(one) for one in row]) for row in rows]) > MOST_DEGREE:
        raise TooLarge("a term would have a degree above 12")
    return expanded(n, rows, list(range(n)))

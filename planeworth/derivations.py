"""Derivations that are lawful for planes at the origin; planes that are free; modular flats."""

from planeworth.errors import BadNumber, NoAnswer, NotPlanes, NotPoly, TooLarge
from planeworth.flats import bits_of, check_flat, rank_of, web, web_by_rank
from planeworth.linear import kernel_from, whole_echelon
from planeworth.numbers import cleared
from planeworth.planes import check_letters, letter_rows
from planeworth.polys import (added, check_degrees, check_poly, divided, expanded, is_poly, letter_power, plane_form,
                              poly_of, power_list, product_of, put_power, slope_of)

MOST_BASIS_DEGREE = 11
MOST_PLACES = 150
MOST_BY_LETTERS = (0, 12, 12, 7, 5)


def is_derivation(n, one):
    """Whether a tuple of polynomials is a derivation of n letters."""
    check_letters(n)
    if len(one) != n or not all([is_poly(n, part) for part in one]):
        return False
    return len({sum(powers) for part in one for powers, _ in part}) <= 1


def check_derivation(n, one):
    """Raise BadNumber for n, then NotPoly if polynomials are no derivation."""
    if not is_derivation(n, one):
        raise NotPoly("polynomials are no derivation")


def check_origin(planes):
    """Raise NotPlanes if a plane is not at the origin."""
    if any([plane[-1] != 0 for plane in planes.planes()]):
        raise NotPlanes("a plane is not at the origin")


def applied_on(one, poly):
    """What a derivation makes of a polynomial."""
    total = ()
    for k, part in enumerate(one):
        by = slope_of(poly, k)
        check_degrees(part, by)
        total = added(total, product_of(part, by), 1)
    return total


def applied(n, one, poly):
    """The polynomial that a derivation makes of another one."""
    check_derivation(n, one)
    check_poly(n, poly)
    return applied_on(one, poly)


def bracket(n, one, two):
    """The bracket of two derivations."""
    check_derivation(n, one)
    check_derivation(n, two)
    return tuple([added(applied_on(one, part), applied_on(two, other), -1) for other, part in zip(one, two)])


def lawful(planes, one):
    """Whether a derivation is lawful for planes at the origin."""
    check_origin(planes)
    check_derivation(planes.n, one)
    forms = [plane_form(planes.n, plane) for plane in planes.planes()]
    # A form has no common divisor, so a multiple with integers is one by a polynomial with integers.
    return all([divided(applied_on(one, form), form) is not None for form in forms])


def powers_of(n, degree):
    """The ascending list of all powers of a degree."""
    found = [()]
    for k in range(n):
        if k < n - 1:
            found = [powers + (a,) for powers in found for a in range(degree - sum(powers) + 1)]
        else:
            found = [powers + (degree - sum(powers),) for powers in found]
    return found


def places_of(n, degree):
    """The list of the places of a derivation of a degree."""
    return [(k, powers) for k in range(n) for powers in powers_of(n, degree)]


def least_letter(row):
    """The letter with the least entry other than 0, whatever its sign."""
    return min([(abs(a), k) for k, a in enumerate(row) if a != 0])[1]


def form_powers(n, row, letter, degree):
    """The powers 0 to a degree of what a plane tells of a letter, times the entry of this letter."""
    form = poly_of({letter_power(n, k): -a for k, a in enumerate(row) if k != letter})
    found = [(((0,) * n, 1),)]
    for _ in range(degree):
        found.append(product_of(found[-1], form))
    return found


def plane_conditions(row, places, degree):
    """The list of the rows, over all places, that are 0 with the lawful derivations of one plane.

    On the plane one letter is told by the others: what the derivation makes of
    the form must have no term there.
    """
    letter = least_letter(row)
    made = form_powers(len(row), row, letter, degree)
    factors = power_list(row[letter])
    conditions = {}
    for at, (k, powers) in enumerate(places):
        if row[k] != 0:
            many = powers[letter]
            rest = ((put_power(powers, letter, 0), row[k] * factors[degree - many]),)
            for left, a in product_of(rest, made[many]):
                conditions.setdefault(left, [0] * len(places))[at] = a
    return [conditions[left] for left in conditions]


def basis_rows(planes, degree):
    """The told basis as rows of integers over all places."""
    places = places_of(planes.n, degree)
    conditions = []
    for row in letter_rows(planes):
        conditions.extend(plane_conditions(row, places, degree))
    # The places stand the other way round: then each row of the kernel's basis has
    # its first place at a free one, and 0 at all other free ones.
    turned = [row[::-1] for row in conditions]
    found = kernel_from(len(places), whole_echelon(len(places), turned))
    return [cleared(row)[::-1] for row in reversed(found)]


def derivation_of(n, places, row):
    """The derivation with the integers of a row over all places."""
    parts = [[] for _ in range(n)]
    for (k, powers), a in zip(places, row):
        if a != 0:
            parts[k].append((powers, a))
    return tuple([tuple(part) for part in parts])


def lawful_basis(planes, degree):
    """The told basis of the lawful derivations of a degree."""
    check_origin(planes)
    if not 0 <= degree <= MOST_BASIS_DEGREE:
        raise BadNumber("a degree is from 0 to 11")
    places = places_of(planes.n, degree)
    if len(places) > MOST_PLACES:
        raise TooLarge("there are more than 150 places")
    return [derivation_of(planes.n, places, row) for row in basis_rows(planes, degree)]


def first_place(row):
    """The first place of a row with an integer that is not 0."""
    return [k for k, a in enumerate(row) if a != 0][0]


def by_letters(n, degree, rows):
    """The list of all products of a letter and one of the derivations of a degree, as dicts by places."""
    places = places_of(n, degree)
    found = []
    for row in rows:
        told = [(k, powers, a) for (k, powers), a in zip(places, row) if a != 0]
        for letter in range(n):
            found.append({(k, put_power(powers, letter, powers[letter] + 1)): a for k, powers, a in told})
    return found


def chosen_rows(n, degree, rows, before):
    """The rows of a told basis that are chosen; `before` is that of the degree less by 1."""
    places = places_of(n, degree)
    # A lawful derivation is told by its integers at the first places of the told basis: but for
    # a factor each, these are the numbers of the combination. They stand from the last one on,
    # as a derivation is made by those before it if it is the last one in some combination.
    firsts = [places[first_place(row)] for row in rows]
    told = [[made.get(place, 0) for place in reversed(firsts)] for made in by_letters(n, degree - 1, before)]
    made_places = [len(rows) - 1 - pivot for pivot, _ in whole_echelon(len(rows), told)]
    return [row for k, row in enumerate(rows) if k not in made_places]


def table_and_chosen(planes):
    """The table, the chosen derivations, and whether the planes are free."""
    check_origin(planes)
    n, m = planes.n, len(planes)
    if m > MOST_BY_LETTERS[n]:
        raise TooLarge("there are too many planes for so many letters")
    table = []
    chosen = []
    before = []
    total = 0
    while True:
        degree = len(table)
        rows = basis_rows(planes, degree)
        fresh = chosen_rows(n, degree, rows, before)
        table.append((len(rows), len(fresh)))
        chosen.extend([derivation_of(n, places_of(n, degree), row) for row in fresh])
        total += degree * len(fresh)
        if len(chosen) > n or (len(chosen) == n and total > m):
            return table, chosen, False
        if len(chosen) == n and total == m and expanded(n, chosen, list(range(n))) != ():
            return table, chosen, True
        before = rows


def degree_table(planes):
    """The table of planes at the origin."""
    table, _, _ = table_and_chosen(planes)
    return table


def degrees(planes):
    """The degrees of planes that are free."""
    table, _, free = table_and_chosen(planes)
    if not free:
        raise NoAnswer("the planes are not free")
    return [degree for degree, (_, fresh) in enumerate(table) for _ in range(fresh)]


def freedom(planes):
    """("free", rows) with the chosen derivations, or ("bound", table)."""
    table, chosen, free = table_and_chosen(planes)
    if free:
        return ("free", tuple(chosen))
    return ("bound", tuple(table))


class Ranks:
    """The ranks of planes that are told by the bits of their indexes; each one is worked out once."""

    def __init__(self, planes):
        self._planes = planes
        self._known = {}

    def of(self, bits):
        """The rank of some planes."""
        if bits not in self._known:
            indexes = [at for at in range(len(self._planes)) if bits >> at & 1 == 1]
            self._known[bits] = rank_of(self._planes, indexes)
        return self._known[bits]


def is_modular_among(ranks, flat, flats):
    """Whether a flat is modular among all flats."""
    own = bits_of(flat)
    others = [bits_of(other) for other in flats]
    return all([ranks.of(own) + ranks.of(bits) == ranks.of(own | bits) + ranks.of(own & bits) for bits in others])


def is_modular(planes, flat):
    """Whether a flat is modular."""
    check_origin(planes)
    check_flat(planes, flat)
    return is_modular_among(Ranks(planes), flat, web(planes))


def is_part(one, other):
    """Whether all indexes of a flat are among those of another one."""
    return all([at in other for at in one])


def split_chain(planes):
    """The first split chain."""
    check_origin(planes)
    levels = web_by_rank(planes)
    flats = [flat for level in levels for flat in level]
    ranks = Ranks(planes)
    # From the last rank to the first: the modular flats from which a chain goes on to the end.
    good = [levels[-1]]
    for rank in reversed(range(len(levels) - 1)):
        good.append([flat for flat in levels[rank]
                     if any([is_part(flat, other) for other in good[-1]])
                     and is_modular_among(ranks, flat, flats)])
    chain = []
    for level in reversed(good):
        further = [flat for flat in level if len(chain) == 0 or is_part(chain[-1], flat)]
        if len(further) == 0:
            raise NoAnswer("there is no split chain")
        chain.append(further[0])
    return chain

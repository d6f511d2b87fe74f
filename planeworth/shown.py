"""Papers that are checked apart: planes that are free or not, sums of products that are alike or not."""

from itertools import permutations
from math import gcd, lcm

from planeworth.certificates import check_rows, is_fraction, order_worth
from planeworth.errors import BadNumber, NotNumber, NotPlanes, NotSum, TooLarge

MOST_FREE = (0, 12, 12, 7, 5)


def less_by(row, by, place):
    """A row of integers that are not 0, as a dict by places, multiplied and less another one: it has no such place."""
    shared = gcd(row[place], by[place])
    much, less = by[place] // shared, row[place] // shared
    made = {k: much * row.get(k, 0) - less * by.get(k, 0) for k in {**row, **by}}
    whole = 0
    for a in made.values():
        whole = gcd(whole, a)
    return {k: a // whole for k, a in made.items() if a != 0}


def grown(found, rows):
    """The rows by their first places, as a dict: those of another such dict, and what the rows are beside them."""
    longer = {place: found[place] for place in found}
    for row in rows:
        left = row
        while len(left) > 0 and min(left) in longer:
            place = min(left)
            left = less_by(left, longer[place], place)
        if len(left) > 0:
            longer[min(left)] = left
    return longer


def rank_of(rows):
    """The rank of tuples of integers."""
    return len(grown({}, [{k: a for k, a in enumerate(row) if a != 0} for row in rows]))


def check_origin(n, rows):
    """Raise the errors of planes at the origin, then TooLarge for too many of them."""
    check_rows(n, rows)
    if any([row[-1] != 0 for row in rows]):
        raise NotPlanes("a plane is not at the origin")
    if len(rows) > MOST_FREE[n]:
        raise TooLarge("there are too many planes for so many letters")


def is_term(n, value):
    """Whether a value is a term of a polynomial."""
    if not isinstance(value, tuple) or len(value) != 2 or not isinstance(value[0], tuple):
        return False
    powers, a = value
    return (len(powers) == n and all([isinstance(k, int) and k >= 0 for k in powers]) and sum(powers) <= 12
            and isinstance(a, int) and a != 0)


def is_polynomial(n, value):
    """Whether a value is a polynomial."""
    if not isinstance(value, tuple) or not all([is_term(n, term) for term in value]):
        return False
    return all([one[0] < other[0] for one, other in zip(value, value[1:])])


def degree_in(n, value):
    """The degree of a derivation other than 0; None for 0, and if the value is no derivation."""
    if not isinstance(value, tuple) or len(value) != n or not all([is_polynomial(n, part) for part in value]):
        return None
    found = sorted({sum(powers) for part in value for powers, _ in part})
    return found[0] if len(found) == 1 else None


def multiplied(one, other):
    """The product of two polynomials, dicts of integers by powers."""
    made = {}
    for powers, a in one.items():
        for others, b in other.items():
            both = tuple([k + m for k, m in zip(powers, others)])
            made[both] = made.get(both, 0) + a * b
    return {powers: a for powers, a in made.items() if a != 0}


def letter_form(row):
    """The form of a plane, or some letters, as a dict by powers."""
    return {tuple([1 if k == letter else 0 for k in range(len(row))]): a for letter, a in enumerate(row) if a != 0}


def powers_with(n, degree):
    """The list of all powers of n letters with a degree."""
    found = [()]
    for _ in range(n - 1):
        found = [powers + (k,) for powers in found for k in range(degree - sum(powers) + 1)]
    return [powers + (degree - sum(powers),) for powers in found]


def on_plane(row, at, degree):
    """What a plane with an index asks of the places of a derivation of a degree, as a dict of dicts by places.

    On the plane one letter is told by the others. What the derivation makes of
    the form is a multiple of it if nothing is left there.
    """
    n = len(row)
    letter = [k for k, a in enumerate(row) if a != 0][0]
    others = letter_form([0 if k == letter else -a for k, a in enumerate(row)])
    by_power = [{(0,) * n: 1}]
    factors = [1]
    for _ in range(degree):
        by_power.append(multiplied(by_power[-1], others))
        factors.append(factors[-1] * row[letter])
    asked = {}
    for powers in powers_with(n, degree):
        many = powers[letter]
        kept = {powers[:letter] + (0,) + powers[letter + 1:]: factors[degree - many]}
        told = multiplied(kept, by_power[many])
        for k, a in enumerate(row):
            if a != 0:
                asked[(1, k, powers)] = {(0, at, rest): a * b for rest, b in told.items()}
    return asked


def places_asked(n, rows, degree):
    """For each place of a derivation of a degree the dict of what all planes ask of it."""
    asked = {(1, k, powers): {} for k in range(n) for powers in powers_with(n, degree)}
    for at, row in enumerate(rows):
        for place, told in on_plane(row[:-1], at, degree).items():
            for rest, b in told.items():
                asked[place][rest] = b
    return asked


def is_lawful(n, rows, value, degree):
    """Whether a derivation of a degree is lawful."""
    asked = places_asked(n, rows, degree)
    total = {}
    for k, part in enumerate(value):
        for powers, a in part:
            for place, b in asked[(1, k, powers)].items():
                total[place] = total.get(place, 0) + a * b
    return not any([b != 0 for b in total.values()])


def expanded(n, table):
    """The determinant of n rows of n polynomials, over all orders."""
    total = {}
    for order in permutations(range(n)):
        made = {(0,) * n: order_worth(order)}
        for k, place in enumerate(order):
            made = multiplied(made, table[k][place])
        for powers, a in made.items():
            total[powers] = total.get(powers, 0) + a
    return {powers: a for powers, a in total.items() if a != 0}


def forms_product(n, rows):
    """The product of the forms of planes at the origin."""
    made = {(0,) * n: 1}
    for row in rows:
        made = multiplied(made, letter_form(row[:-1]))
    return made


def is_multiple(one, other):
    """Whether a polynomial is another one, which is not 0, times a number that is not 0."""
    powers = max(other)
    much, below = one.get(powers, 0), other[powers]
    if much == 0 or len(one) != len(other):
        return False
    return all([one.get(told, 0) * below == much * a for told, a in other.items()])


def shows_free(n, rows, derivations):
    """Whether derivations show that planes at the origin are free."""
    check_origin(n, rows)
    if not isinstance(derivations, tuple) or len(derivations) != n:
        return False
    degrees = [degree_in(n, value) for value in derivations]
    # The degrees of a determinant that is Q times a number add up to that of Q.
    if None in degrees or sum(degrees) != len(rows):
        return False
    if not all([is_lawful(n, rows, value, degree) for value, degree in zip(derivations, degrees)]):
        return False
    table = [[{powers: a for powers, a in part} for part in value] for value in derivations]
    return is_multiple(expanded(n, table), forms_product(n, rows))


def lawful_rows(n, rows, degree):
    """A basis of the lawful derivations of a degree, rows as dicts by places."""
    # Each row has what is asked of one place, ahead of this place itself: where nothing is
    # asked any more, the places that are left make a lawful derivation.
    asked = places_asked(n, rows, degree)
    found = grown({}, [{**told, place: 1} for place, told in asked.items()])
    return [row for first, row in found.items() if first[0] == 1]


def by_letters(n, rows):
    """The rows of derivations, each multiplied by each letter."""
    return [{(1, k, powers[:letter] + (powers[letter] + 1,) + powers[letter + 1:]): a
             for (_, k, powers), a in row.items()} for letter in range(n) for row in rows]


def shows_bound(n, rows, table):
    """Whether a tuple is the table of planes at the origin, and ends as it does where they are not free."""
    check_origin(n, rows)
    # The table ends with the degree m at the latest.
    if not isinstance(table, tuple) or len(table) > len(rows) + 1:
        return False
    before = []
    many = 0
    total = 0
    for degree, entry in enumerate(table):
        made = grown({}, by_letters(n, before))
        before = lawful_rows(n, rows, degree)
        fresh = len(before) - len(made)
        if entry != (len(before), fresh):
            return False
        many += fresh
        total += degree * fresh
        if many > n or (many == n and total > len(rows)):
            return degree + 1 == len(table)
    # If the planes are free nothing is new behind a basis, so neither of the two ways is ever come to.
    return False


def is_product(many, value):
    """Whether a value is a product of some of so many planes."""
    return (isinstance(value, tuple) and all([isinstance(at, int) and 0 <= at < many for at in value])
            and all([at < other for at, other in zip(value, value[1:])]))


def check_terms(many, size, terms):
    """Raise NotSum or NotNumber for the first wrong pair of a sum."""
    for product, x in terms:
        if not is_product(many, product) or len(product) != size:
            raise NotSum("a term has no product of the size")
        if not is_fraction(x):
            raise NotNumber("a pair is no fraction in lowest terms")


def check_sums(n, rows, size, terms, others):
    """Raise the errors of planes, of a size and of two sums."""
    check_rows(n, rows)
    if not 0 <= size <= 12:
        raise BadNumber("a size is from 0 to 12")
    check_terms(len(rows), size, terms)
    check_terms(len(rows), size, others)


def do_meet(rows):
    """Whether planes meet."""
    return rank_of(rows) == rank_of([row[:-1] for row in rows])


def is_ruled(rows, kind, product):
    """Whether a rule of a kind tells something for a product."""
    own = [rows[at] for at in product]
    if kind == "empty":
        return not do_meet(own)
    return kind == "tied" and do_meet(own) and rank_of(own) < len(own)


def is_entry(rows, value):
    """Whether a value is a pair of a number and a relation."""
    if not isinstance(value, tuple) or len(value) != 2 or not is_fraction(value[0]):
        return False
    relation = value[1]
    if not isinstance(relation, tuple) or len(relation) != 3:
        return False
    kind, product, rest = relation
    return is_product(len(rows), product) and is_product(len(rows), rest) and is_ruled(rows, kind, product)


def relation_terms(relation):
    """The list of the pairs of a product and 1 or -1 that a relation has."""
    kind, product, rest = relation
    parts = [(product, 1)]
    if kind == "tied":
        parts = [(product[:k] + product[k + 1:], -1 if k % 2 == 1 else 1) for k in range(len(product))]
    return [(tuple(sorted(rest + part)), worth * order_worth(rest + part)) for part, worth in parts
            if not any([at in part for at in rest])]


def relation_size(relation):
    """The size of a relation."""
    kind, product, rest = relation
    return len(product) + len(rest) - (1 if kind == "tied" else 0)


def difference_of(terms, others, paper):
    """The first sum less the second one and less a paper, its numbers all multiplied by one integer."""
    divisor = 1
    for below in [x[1] for _, x in terms + others] + [x[1] for x, _ in paper]:
        divisor = lcm(divisor, below)
    pairs = [(product, x, 1) for product, x in terms] + [(product, x, -1) for product, x in others]
    for x, relation in paper:
        pairs.extend([(product, x, -worth) for product, worth in relation_terms(relation)])
    found = {}
    for product, (a, b), worth in pairs:
        found[product] = found.get(product, 0) + worth * a * (divisor // b)
    return found


def shows_alike(n, rows, size, terms, others, paper):
    """Whether a paper shows that two sums are alike."""
    check_sums(n, rows, size, terms, others)
    if not isinstance(paper, list) or not all([is_entry(rows, value) for value in paper]):
        return False
    if any([relation_size(relation) != size for _, relation in paper]):
        return False
    return not any([a != 0 for a in difference_of(terms, others, paper).values()])


def is_flat(rows, value):
    """Whether a value is a flat."""
    if not is_product(len(rows), value):
        return False
    own = [rows[at] for at in value]
    return do_meet(own) and not any([rank_of(own + [row]) == rank_of(own) for at, row in enumerate(rows)
                                     if at not in value])


def is_flag(rows, size, value):
    """Whether a value is a flag of a size."""
    if not isinstance(value, list) or not all([is_flat(rows, flat) for flat in value]):
        return False
    ranks = [rank_of([rows[at] for at in flat]) for flat in value]
    return ranks == list(range(1, size + 1)) and all([at in other for flat, other in zip(value, value[1:])
                                                      for at in flat])


def worth_at(product, flag):
    """The value of a product at a flag of its size."""
    # Each next flat needs one index of its own, so no more than one order counts.
    fresh = [[at for at in product if at in flat and not any([at in other for other in flag[:k]])]
             for k, flat in enumerate(flag)]
    if any([len(indexes) != 1 for indexes in fresh]):
        return 0
    return order_worth([at for indexes in fresh for at in indexes])


def shows_parted(n, rows, size, terms, others, flag):
    """Whether two sums have different values at a flag."""
    check_sums(n, rows, size, terms, others)
    if not is_flag(rows, size, flag):
        return False
    return sum([a * worth_at(product, flag) for product, a in difference_of(terms, others, []).items()]) != 0

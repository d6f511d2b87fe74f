"""Sums that are alike: plain sums, flags and their values, papers, lowered sums, forms."""

from planeworth.circuits import breaking, check_size
from planeworth.errors import BadNumber, NoAnswer, NotFlat, TooLarge
from planeworth.flats import check_flat, flat_of, meeting, next_flats, rank_of
from planeworth.linear import index_choices, whole_determinant
from planeworth.moves import excess
from planeworth.numbers import ONE, ZERO, check_number, minus, over, plus, times
from planeworth.planes import check_point
from planeworth.products import Sum, left_out, order_sign, relation_sum

MOST_FLAGS = 3000


def relation_for(planes, product):
    """A relation with a product that is not allowed as its greatest term; None if it is allowed."""
    found = meeting(planes, product)
    if found is None:
        return ("empty", product, ())
    if len(found) < len(product):
        # With the first index as the rest, only the product itself is left.
        return ("tied", product, product[:1])
    circuit = breaking(planes, product)
    if circuit is None:
        return None
    return ("tied", circuit, tuple([at for at in product if at not in circuit]))


def taken_away(planes, terms):
    """The list of the terms of the plain sum, and the paper of what is taken away to reach it."""
    left = {product: x for product, x in terms}
    kept = []
    paper = []
    while len(left) > 0:
        # The greatest one goes first, as only lesser ones take its place: it does not come again.
        product = max(left)
        x = left.pop(product)
        relation = relation_for(planes, product)
        if relation is None:
            kept.append((product, x))
        elif x != ZERO:
            told = relation_sum(planes, relation)
            y = over(x, told.at(product))
            paper.append((y, relation))
            for other, z in told.terms():
                if other != product:
                    left[other] = minus(left.get(other, ZERO), times(y, z))
    return kept, paper


def plain(one):
    """The plain sum of a sum."""
    kept, _ = taken_away(one.base, one.terms())
    return Sum(one.base, one.size, kept)


def are_alike(one, other):
    """Whether two sums are alike."""
    return len(plain(one - other)) == 0


def flags(planes, size):
    """The list of all flags of a size, ascending."""
    check_size(size)
    if size > planes.rank():
        return []
    after = {}
    found = [[]]
    for _ in range(size):
        longer = []
        for flag in found:
            last = flag[-1] if len(flag) > 0 else ()
            if last not in after:
                after[last] = sorted(next_flats(planes, last))
            longer.extend([flag + [flat] for flat in after[last]])
        # Each of these goes on to some flag of the size, so there are never fewer of them.
        if len(longer) > MOST_FLAGS:
            raise TooLarge("there are more than 3000 flags")
        found = longer
    return found


def check_flag(planes, size, flag):
    """Raise NotFlat if a list is no flag of a size."""
    if len(flag) != size:
        raise NotFlat("a flag has as many flats as its size")
    before = ()
    for k, flat in enumerate(flag):
        check_flat(planes, flat)
        if rank_of(planes, flat) != k + 1 or any([at not in flat for at in before]):
            raise NotFlat("the flats of a flag have the ranks 1, 2, .., each within the one before")
        before = flat


def value_of(product, flag):
    """The value of a product at a flag of its size."""
    order = []
    before = ()
    for flat in flag:
        fresh = [at for at in product if at in flat and at not in before]
        # Each flat must be made by one index more, so there is one order at most.
        if len(fresh) != 1:
            return 0
        order.append(fresh[0])
        before = flat
    return order_sign(order)


def flag_value(one, flag):
    """The value of a sum at a flag."""
    check_flag(one.base, one.size, flag)
    value = ZERO
    for product, x in one.terms():
        value = plus(value, times(x, (value_of(product, flag), 1)))
    return value


def paper_sum(planes, size, paper):
    """The sum of a paper."""
    check_size(size)
    terms = []
    for x, relation in paper:
        check_number(x)
        told = relation_sum(planes, relation)
        if told.size != size:
            raise BadNumber("a relation has another size")
        terms.extend(told.scaled(x).terms())
    return Sum(planes, size, terms)


def parting_flag(planes, product):
    """The flag at which, of all allowed products, this one alone has a value other than 0.

    Its flats are made by the last index, the last two, and so on. Each of them
    begins with the first index that makes it, and any allowed product that makes
    the same flats must have these indexes, or a circuit would be broken in it.
    """
    return [flat_of(planes, product[k:]) for k in reversed(range(len(product)))]


def decide(one, other):
    """("alike", paper) or ("apart", flag) for two sums."""
    planes = one.base
    kept, paper = taken_away(planes, (one - other).terms())
    told = Sum(planes, one.size, kept).terms()
    if len(told) == 0:
        return ("alike", paper)
    return ("apart", parting_flag(planes, told[0][0]))


def is_answer(one, other, answer):
    """Whether a tuple is an answer for two sums."""
    difference = one - other
    if len(answer) != 2:
        return False
    word, told = answer
    if word == "alike":
        return paper_sum(one.base, one.size, told) == difference
    return word == "apart" and flag_value(difference, told) != ZERO


def lowered(one):
    """The lowered sum."""
    if one.size == 0:
        raise BadNumber("a sum of the size 0 is not lowered")
    if not one.base.is_central():
        raise NoAnswer("no point lies on all planes")
    terms = [(part, times(x, turn)) for product, x in one.terms() for part, turn in left_out(product)]
    return Sum(one.base, one.size - 1, terms)


def form_at(one, point):
    """The form of a sum at a point."""
    n = one.base.n
    if one.size > n:
        raise BadNumber("the size is more than the number of letters")
    check_point(n, point)
    rows = one.base.planes()
    values = [excess(plane, point) for plane in rows]
    if ZERO in values:
        raise NoAnswer("the point lies on a plane")
    choices = index_choices(n, one.size)
    form = [ZERO] * len(choices)
    for product, x in one.terms():
        below = ONE
        for at in product:
            below = times(below, values[at])
        y = over(x, below)
        for k, letters in enumerate(choices):
            part = whole_determinant([[rows[at][letter] for letter in letters] for at in product])
            form[k] = plus(form[k], times(y, (part, 1)))
    return form

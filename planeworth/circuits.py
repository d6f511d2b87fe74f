"""Products of planes that are empty or tied, circuits, allowed products."""

from itertools import combinations

from planeworth.errors import BadNumber, NotSum
from planeworth.flats import bits_of, flat_or_none, meeting
from planeworth.linear import columns_of, kernel_from, whole_echelon
from planeworth.numbers import ZERO
from planeworth.planes import MOST_PLANES, ascends, check_index


def check_product(planes, product):
    """Raise BadNumber for an index that is none of the list, then NotSum if they do not ascend."""
    for at in product:
        check_index(planes, at)
    if not ascends(product):
        raise NotSum("the indexes of a product ascend")


def is_empty(planes, product):
    """Whether the planes of a product do not meet."""
    check_product(planes, product)
    return meeting(planes, product) is None


def is_tied(planes, product):
    """Whether the planes of a product meet and have a rank less than its size."""
    check_product(planes, product)
    found = meeting(planes, product)
    return found is not None and len(found) < len(product)


def is_allowed(planes, product):
    """Whether a product is not empty and has no broken circuit among its indexes."""
    check_product(planes, product)
    if meeting(planes, product) is None:
        return False
    return all([flat_or_none(planes, product[k:])[0] == product[k] for k in range(len(product))])


def breaking(planes, product):
    """A circuit that, broken, is among the indexes of a product that is neither empty nor tied; or None.

    It has the first index of the flat of the indexes from some place on: the
    product is allowed just if none of these flats has a lesser index than they.
    """
    for k in range(len(product)):
        first = flat_or_none(planes, product[k:])[0]
        if first < product[k]:
            return circuit_with(planes, first, product[k:])
    return None


def circuit_with(planes, first, product):
    """The circuit of an index and some of those of a product that is not tied, in whose flat it is."""
    indexes = (first,) + product
    rows = planes.planes()
    many = len(indexes)
    found = whole_echelon(many, columns_of(planes.n + 1, [rows[at] for at in indexes]))
    factors = kernel_from(many, found)[0]
    return tuple([at for at, x in zip(indexes, factors) if x != ZERO])


def circuits(planes):
    """The list of all circuits, ascending by size, those of one size as tuples."""
    found = []
    shorter = []
    for size in range(3, planes.n + 2):
        for product in combinations(range(len(planes)), size):
            bits = bits_of(product)
            if not any([other & bits == other for other in shorter]) and is_tied(planes, product):
                found.append(product)
                shorter.append(bits)
    return found


def broken(planes):
    """The list of all broken circuits, each once, ascending by size, those of one size as tuples."""
    found = {product[1:]: True for product in circuits(planes)}
    return [product for _, product in sorted([(len(product), product) for product in found])]


def check_size(size):
    """Raise BadNumber if a size is not from 0 to 12."""
    if not 0 <= size <= MOST_PLANES:
        raise BadNumber("a size is from 0 to 12")


def begins_flat(planes, product):
    """Whether the planes of a product meet and its first index is the first one of their flat."""
    flat = flat_or_none(planes, product)
    return flat is not None and flat[0] == product[0]


def allowed(planes, size):
    """The list of all allowed products of a size, ascending."""
    check_size(size)
    # What stands behind the first index of an allowed product is one, too.
    found = [()]
    for _ in range(size):
        longer = [(at,) + product for product in found for at in range(len(planes))
                  if product == () or at < product[0]]
        found = [product for product in longer if begins_flat(planes, product)]
    return sorted(found)

"""Matrices of numbers: echelon form, kernel, solution, clash, determinant, inverse."""

from itertools import combinations
from math import gcd

from planeworth.errors import BadNumber, NoAnswer, NotMatrix
from planeworth.numbers import ONE, ZERO, cleared, is_number, number, over_one_divisor, plus, primitive

MOST_WIDTH = 64
MOST_ROWS = 64


def is_number_row(width, row):
    """Whether a row is a tuple of so many numbers."""
    return isinstance(row, tuple) and len(row) == width and all([is_number(x) for x in row])


def check_matrix(width, rows):
    """Raise BadNumber for a width that is not allowed, NotMatrix for rows that are no matrix of it."""
    if not 0 <= width <= MOST_WIDTH:
        raise BadNumber("a width is from 0 to 64")
    if len(rows) > MOST_ROWS:
        raise NotMatrix("a matrix has at most 64 rows")
    for row in rows:
        if not is_number_row(width, row):
            raise NotMatrix("a row does not consist of so many numbers")


def check_square(width, rows):
    """The errors of a matrix, and NotMatrix if it does not have as many rows as places."""
    check_matrix(width, rows)
    if len(rows) != width:
        raise NotMatrix("the number of the rows is not the width")


def unit_row(width, place):
    """The row with 1 at a place and otherwise 0."""
    return tuple([ONE if k == place else ZERO for k in range(width)])


def first_row_with(rows, place):
    """The index of the first row whose integer at a place is not 0, or None."""
    for at, row in enumerate(rows):
        if row[place] != 0:
            return at
    return None


def struck(row, by, place):
    """The row of integers, multiplied, less a multiple of another one, so that it has 0 at the place."""
    if row[place] == 0:
        return row
    shared = gcd(row[place], by[place])
    much = by[place] // shared
    less = row[place] // shared
    return primitive([much * a - less * b for a, b in zip(row, by)])


def whole_echelon(width, rows):
    """The echelon form of rows of integers, as a list of pairs of a pivot and a row.

    Each row is one of the echelon form multiplied by an integer, so that it
    consists of integers; integers are far quicker to reckon with than numbers.
    """
    done = []
    left = [primitive(row) for row in rows]
    for place in range(width):
        at = first_row_with(left, place)
        if at is not None:
            by = left[at]
            done = [(pivot, struck(row, by, place)) for pivot, row in done]
            done.append((place, by))
            left = [struck(row, by, place) for k, row in enumerate(left) if k != at]
    return done


def kernel_row(width, found, free):
    """The row of the kernel's basis for one free place, from a whole echelon form."""
    row = list(unit_row(width, free))
    for pivot, line in found:
        row[pivot] = number(-line[free], line[pivot])
    return tuple(row)


def kernel_from(width, found):
    """The basis of the kernel, from a whole echelon form."""
    pivots = [pivot for pivot, _ in found]
    return [kernel_row(width, found, free) for free in range(width) if free not in pivots]


def solution_from(width, found):
    """The solution, or None, from the whole echelon form of rows with the wanted number behind."""
    row = [ZERO] * width
    for pivot, line in found:
        if pivot == width:
            return None
        row[pivot] = number(line[width], line[pivot])
    return tuple(row)


def solution_or_none(width, rows, wanted):
    """The solution for rows of numbers, or None."""
    longer = [cleared(row + (x,)) for row, x in zip(rows, wanted)]
    return solution_from(width, whole_echelon(width + 1, longer))


def index_choices(many, size):
    """The list of all ascending choices of so many of the first integers from 0 on, ascending."""
    return list(combinations(range(many), size))


def columns_of(width, rows):
    """The list of the columns of a matrix, as tuples."""
    return [tuple([row[place] for row in rows]) for place in range(width)]


def echelon(width, rows):
    """The list of the rows of the echelon form."""
    check_matrix(width, rows)
    found = whole_echelon(width, [cleared(row) for row in rows])
    return [tuple([number(a, line[pivot]) for a in line]) for pivot, line in found]


def rank(width, rows):
    """The rank of a matrix."""
    check_matrix(width, rows)
    return len(whole_echelon(width, [cleared(row) for row in rows]))


def kernel(width, rows):
    """The list of the rows of the basis of the kernel."""
    check_matrix(width, rows)
    return kernel_from(width, whole_echelon(width, [cleared(row) for row in rows]))


def check_wanted(rows, wanted):
    """Raise NotMatrix if the wanted numbers are not one for each row."""
    if not is_number_row(len(rows), wanted):
        raise NotMatrix("a number is wanted for each row")


def solution(width, rows, wanted):
    """The row with the wanted products with the rows, 0 at all free places."""
    check_matrix(width, rows)
    check_wanted(rows, wanted)
    found = solution_or_none(width, rows, wanted)
    if found is None:
        raise NoAnswer("no row has the wanted products")
    return found


def clash(width, rows, wanted):
    """The numbers that lead the rows to zeros and the wanted numbers to 1."""
    check_matrix(width, rows)
    check_wanted(rows, wanted)
    lines = columns_of(width, rows) + [wanted]
    found = solution_or_none(len(rows), lines, unit_row(width + 1, width))
    if found is None:
        raise NoAnswer("some row has the wanted products")
    return found


def whole_determinant(rows):
    """The determinant of rows of integers, as many as places."""
    left = [list(row) for row in rows]
    turn = 1
    before = 1
    while len(left) > 0:
        at = first_row_with(left, 0)
        if at is None:
            return 0
        # The row is taken to the front past as many rows as its index tells.
        if at % 2 == 1:
            turn = -turn
        by = left[at]
        left = [smaller_row(row, by, before) for k, row in enumerate(left) if k != at]
        before = by[0]
    return turn * before


def smaller_row(row, by, before):
    """A row without its first place, struck; all entries are divided by the pivot before, exactly."""
    # The entries are determinants of parts of the matrix (Bareiss), so nothing is left over.
    return [(by[0] * a - row[0] * b) // before for a, b in zip(row[1:], by[1:])]


def determinant(width, rows):
    """The determinant of a matrix."""
    check_square(width, rows)
    whole_rows = []
    divisor = 1
    for row in rows:
        integers, below = over_one_divisor(row)
        whole_rows.append(integers)
        divisor = divisor * below
    return number(whole_determinant(whole_rows), divisor)


def inverse(width, rows):
    """The list of the rows of the inverse."""
    check_square(width, rows)
    longer = [cleared(row + unit_row(width, k)) for k, row in enumerate(rows)]
    found = whole_echelon(2 * width, longer)
    if [pivot for pivot, _ in found] != list(range(width)):
        raise NoAnswer("the determinant is 0")
    return [tuple([number(a, line[pivot]) for a in line[width:]]) for pivot, line in found]


def whole_product(one, other):
    """The product of two rows of integers."""
    return sum([a * b for a, b in zip(one, other)])


def row_sum(one, other):
    """The sum of two rows of numbers, place by place."""
    return tuple([plus(x, y) for x, y in zip(one, other)])


def whole_combination(width, rows, integers):
    """The rows of integers, multiplied by one integer each and added up, as a tuple."""
    return tuple([whole_product(integers, [row[k] for row in rows]) for k in range(width)])


def matrix_product(width, rows, other_width, others):
    """The list of the rows of the product of two matrices."""
    check_matrix(width, rows)
    check_matrix(other_width, others)
    if width != len(others):
        raise NotMatrix("the first width is not the number of the rows of the second matrix")
    columns = [over_one_divisor(column) for column in columns_of(other_width, others)]
    product_rows = []
    for row in rows:
        integers, below = over_one_divisor(row)
        product_rows.append(tuple([number(whole_product(integers, column), below * divisor)
                                   for column, divisor in columns]))
    return product_rows

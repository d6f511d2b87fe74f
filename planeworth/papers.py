"""Papers for the checker: all rows of sides of a list of planes, and signs that no planes have."""

from planeworth.determinants import UNITS, sign_in, table_of
from planeworth.errors import TooLarge
from planeworth.linear import index_choices, whole_determinant
from planeworth.planes import SIGNS, sign_letter
from planeworth.sides import decide_row

MOST_PAPER_PLANES = 7
FIGURE = ((0, 0, 1), (0, 1, 1), (5, 1, 3), (1, 0, 1), (1, 1, 1), (6, 2, 5), (2, 0, 1), (3, 1, 1), (1, 1, 2))
SWAPPED = (2, 5, 8)


def row_papers(planes):
    """Papers that tell all rows, in ascending order of the heads, the refused ones as short as they can be."""
    if len(planes) > MOST_PAPER_PLANES:
        raise TooLarge("there are more than 7 planes")
    papers = []
    left = {"": decide_row(planes.only(()), "")}
    for size in range(1, len(planes) + 1):
        first = planes.only(tuple(range(size)))
        found = {head + letter: decide_row(first, head + letter) for head in left for letter in SIGNS}
        papers.extend([(head, told) for head, told in found.items() if told[0] == "refused"])
        left = {head: told for head, told in found.items() if told[0] == "shown"}
    return sorted(papers + list(left.items()))


def figure_comparisons():
    """The list of the nine comparisons of the figure."""
    found = []
    for i in range(3):
        for j in range(3):
            k = -(i + j) % 3
            found.append(((i,), 3 + j, (i + 1) % 3, (i + 2) % 3, 6 + k))
    return found


def swapped_signs():
    """The pair of the signs of a figure, but for one of them, and the comparisons that cancel for it."""
    choices = index_choices(len(FIGURE), 3)
    drawn = "".join([sign_letter(whole_determinant([FIGURE[at] for at in indexes])) for indexes in choices])
    comparisons = figure_comparisons()
    table = table_of(len(FIGURE), 3, drawn)
    x, a, b, c, d = comparisons[-1]
    # The last comparison is strict if its second product, which has the swapped sign, is as the first one.
    worth = 1
    for indexes in (x + (a, b), x + (c, d), x + (b, c)):
        worth = worth * UNITS[sign_in(table, indexes)]
    table[SWAPPED] = sign_letter(worth)
    return "".join([table[indexes] for indexes in choices]), comparisons

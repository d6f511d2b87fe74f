"""Papers that are checked apart, without the modules that find them: rows of sides, shares, comparisons."""

from itertools import combinations
from math import gcd, lcm

from planeworth.errors import BadNumber, NoAnswer, NotPlanes, NotSigns, NotStrokes

SIDES = "+-0"
WORTHS = {"+": 1, "-": -1, "0": 0}


def is_fraction(x):
    """Whether a value is a pair of integers in lowest terms, the second one at least 1."""
    return (isinstance(x, tuple) and len(x) == 2 and isinstance(x[0], int) and isinstance(x[1], int)
            and x[1] >= 1 and gcd(x[0], x[1]) == 1)


def over_one(many, numbers):
    """The integers that, over the last of them, are so many numbers; None if the value is none of this kind."""
    if not isinstance(numbers, tuple) or len(numbers) != many or not all([is_fraction(x) for x in numbers]):
        return None
    divisor = 1
    for _, below in numbers:
        divisor = lcm(divisor, below)
    return [above * (divisor // below) for above, below in numbers] + [divisor]


def added_up(integers, others):
    """The sum of the products, place by place; what one of them has more is left out."""
    return sum([a * b for a, b in zip(integers, others)])


def check_dimension(n):
    """Raise BadNumber if there are not 1 to 4 letters."""
    if n < 1 or n > 4:
        raise BadNumber("there are 1 to 4 letters")


def upright(row):
    """The row, or the row multiplied by -1, that stands behind the other one as a tuple."""
    return max(row, tuple([-a for a in row]))


def are_integers(many, value):
    """Whether a value is a tuple of so many integers."""
    return isinstance(value, tuple) and len(value) == many and all([isinstance(a, int) for a in value])


def is_plane_row(n, row):
    """Whether a value is a plane for n letters."""
    if not are_integers(n + 1, row) or not any(row[:n]):
        return False
    shared = 0
    for a in row:
        shared = gcd(shared, a)
    return shared == 1 and max(row) <= 1000 and min(row) >= -1000


def check_rows(n, rows):
    """Raise BadNumber for n, then NotPlanes if tuples of integers are no list of planes."""
    check_dimension(n)
    if len(rows) > 12 or not all([is_plane_row(n, row) for row in rows]):
        raise NotPlanes("tuples are no planes, or too many")
    if len({upright(row) for row in rows}) < len(rows):
        raise NotPlanes("a plane stands twice")


def has_sides(many, row):
    """Whether a value is a string of so many of the signs of sides."""
    return isinstance(row, str) and len(row) == many and all([letter in SIDES for letter in row])


def side_of(row, place):
    """The side at a plane of a point that is told over one divisor."""
    above = added_up(row[:-1], place) - row[-1] * place[-1]
    if above == 0:
        return "0"
    return "+" if above > 0 else "-"


def has_row(n, rows, row, point):
    """Whether a value is a point with a row of sides."""
    place = over_one(n, point)
    return place is not None and row == "".join([side_of(plane, place) for plane in rows])


def is_against(n, rows, row, combination):
    """Whether a value is a combination that refuses a row of sides."""
    ys = over_one(len(rows), combination)
    if ys is None or not has_sides(len(rows), row):
        return False
    signed = [(y, WORTHS[letter]) for y, letter in zip(ys, row)]
    if any([y * worth < 0 for y, worth in signed]):
        return False
    sums = [added_up([plane[k] for plane in rows], ys) for k in range(n + 1)]
    if any(sums[:n]):
        return False
    return sums[n] > 0 or (sums[n] == 0 and any([y * worth > 0 for y, worth in signed]))


def shows_row(n, rows, row, point):
    """Whether a point shows a row of sides."""
    check_rows(n, rows)
    return has_row(n, rows, row, point)


def refuses_row(n, rows, row, combination):
    """Whether a combination refuses a row of sides."""
    check_rows(n, rows)
    return is_against(n, rows, row, combination)


def is_paper(paper):
    """Whether a value is a pair of a string and a pair of one of the two words and something else."""
    return (isinstance(paper, tuple) and len(paper) == 2 and isinstance(paper[0], str)
            and isinstance(paper[1], tuple) and len(paper[1]) == 2 and paper[1][0] in ("shown", "refused"))


def is_right(n, rows, paper):
    """Whether a paper for a head is right."""
    if not is_paper(paper):
        return False
    head, (word, told) = paper
    if word == "shown":
        return has_row(n, rows, head, told)
    return is_against(n, rows[:len(head)], head, told)


def heads_with(papers, word):
    """The dict of the heads of the papers with a word."""
    return {head: True for head, (told, _) in papers if told == word}


def none_lacks(many, papers):
    """Whether each string of so many signs is a head that is shown, or begins with one that is refused."""
    shown = heads_with(papers, "shown")
    refused = heads_with(papers, "refused")
    begun = {head[:size]: True for head, _ in papers for size in range(len(head) + 1)}
    left = [""]
    for _ in range(many):
        left = [head + letter for head in left if head not in refused for letter in SIDES]
        # What no head begins with is lacking, whatever stands behind it.
        if not all([head in begun for head in left]):
            return False
    return all([head in shown or head in refused for head in left])


def tell_all(n, rows, papers):
    """Whether papers tell all rows of planes."""
    return all([is_right(n, rows, paper) for paper in papers]) and none_lacks(len(rows), papers)


def tells_all(n, rows, papers):
    """Whether papers tell all rows."""
    check_rows(n, rows)
    return tell_all(n, rows, papers)


def faces_told(n, rows, papers):
    """The list of the faces, in their order, that papers for all rows tell."""
    check_rows(n, rows)
    if not tell_all(n, rows, papers):
        raise NoAnswer("the papers do not tell all rows")
    return sorted(heads_with(papers, "shown"))


def check_body(n, strokes):
    """Raise BadNumber for n, then NotStrokes if tuples of integers are no strokes."""
    check_dimension(n)
    if len(strokes) > 8 or not all([are_integers(n, stroke) and any(stroke) for stroke in strokes]):
        raise NotStrokes("strokes have an integer for each letter, not all of them 0, and there are at most 8")
    if any([abs(a) > 100 for stroke in strokes for a in stroke]):
        raise NotStrokes("an integer of a stroke is not from -100 to 100")


def shows_in(n, strokes, point, shares):
    """Whether shares lead to a point."""
    check_body(n, strokes)
    place = over_one(n, point)
    parts = over_one(len(strokes), shares)
    if place is None or parts is None or any([part < 0 or part > parts[-1] for part in parts]):
        return False
    sums = [added_up([stroke[k] for stroke in strokes], parts) for k in range(n)]
    return all([total * place[-1] == x * parts[-1] for total, x in zip(sums, place)])


def shows_out(n, strokes, point, direction):
    """Whether the value of a direction at a point is greater than its greatest one in the body."""
    check_body(n, strokes)
    place = over_one(n, point)
    if place is None or not are_integers(n, direction):
        return False
    most = sum([max(0, added_up(stroke, direction)) for stroke in strokes])
    return added_up(direction, place) > most * place[-1]


def order_worth(indexes):
    """1 or -1 for an even or odd number of pairs of different indexes that stand the wrong way round."""
    worth = 1
    for k, at in enumerate(indexes):
        for other in indexes[k + 1:]:
            if at > other:
                worth = -worth
    return worth


def worth_of(table, indexes):
    """1, -1 or 0 for the sign of different indexes in this order."""
    return table[tuple(sorted(indexes))] * order_worth(indexes)


def is_comparison(k, r, told):
    """Whether a value is a comparison for r of k indexes."""
    if not isinstance(told, tuple) or len(told) != 5 or not isinstance(told[0], tuple):
        return False
    x = told[0]
    indexes = x + told[1:]
    return (are_integers(r + 2, indexes) and all([0 <= at < k for at in indexes]) and len(set(indexes)) == r + 2
            and all([at < other for at, other in zip(x, x[1:])]))


def compared(table, told):
    """1 for a strict comparison, 0 for an even one, None for one that is neither."""
    x, a, b, c, d = told
    first = worth_of(table, x + (a, b)) * worth_of(table, x + (c, d))
    second = worth_of(table, x + (a, d)) * worth_of(table, x + (b, c))
    if first == 0 or second == -first:
        return None
    return 1 if second == first else 0


def index_sets(comparisons, places):
    """The list of the sets of indexes, as ascending tuples, of x and the indexes at the places of each comparison."""
    return sorted([tuple(sorted(told[0] + (told[i], told[j]))) for told in comparisons for i, j in places])


def comparisons_cancel(k, r, signs, comparisons):
    """Whether comparisons cancel for signs of determinants."""
    if not 2 <= k <= 9 or not 2 <= r <= 4 or r > k:
        raise BadNumber("k is from 2 to 9, r from 2 to 4 and at most k")
    choices = list(combinations(range(k), r))
    if not has_sides(len(choices), signs):
        raise NotSigns("a string has not a sign for each ascending tuple")
    if not all([is_comparison(k, r, told) for told in comparisons]):
        return False
    table = {indexes: WORTHS[letter] for indexes, letter in zip(choices, signs)}
    found = [compared(table, told) for told in comparisons]
    if None in found or 1 not in found:
        return False
    return index_sets(comparisons, ((1, 2), (3, 4))) == index_sets(comparisons, ((1, 3), (2, 4)))

"""Numbers: fractions in lowest terms, as pairs of integers."""

from math import gcd, lcm

from planeworth.errors import BadNumber, Malformed, NotNumber, TooLarge

ZERO = (0, 1)
ONE = (1, 1)

MOST_FIGURES = 400
# The least integer with more than 400 figures: compared before an integer is
# written, as Python itself refuses to write some thousands of figures.
TOO_LONG = (10 ** 50) ** 8


def is_number(x):
    """Whether a pair of integers is a fraction in lowest terms."""
    a, b = x
    return b >= 1 and gcd(a, b) == 1


def check_number(x):
    """Raise NotNumber if the pair is no number."""
    if not is_number(x):
        raise NotNumber("a pair is no fraction in lowest terms")


def number(a, b=1):
    """The number a / b."""
    if b == 0:
        raise BadNumber("nothing is divided by 0")
    shared = gcd(a, b)
    if b < 0:
        shared = -shared
    return (a // shared, b // shared)


def plus(x, y):
    """The sum of two numbers."""
    check_number(x)
    check_number(y)
    return number(x[0] * y[1] + y[0] * x[1], x[1] * y[1])


def minus(x, y):
    """The first number less the second one."""
    check_number(x)
    check_number(y)
    return number(x[0] * y[1] - y[0] * x[1], x[1] * y[1])


def times(x, y):
    """The product of two numbers."""
    check_number(x)
    check_number(y)
    return number(x[0] * y[0], x[1] * y[1])


def over(x, y):
    """The first number divided by the second one."""
    check_number(x)
    check_number(y)
    return number(x[0] * y[1], x[1] * y[0])


def whole_sign(a):
    """1, 0 or -1 for an integer."""
    if a > 0:
        return 1
    if a < 0:
        return -1
    return 0


def sign(x):
    """1, 0 or -1 for a number."""
    check_number(x)
    return whole_sign(x[0])


def is_less(x, y):
    """Whether the first number is less than the second one."""
    check_number(x)
    check_number(y)
    return x[0] * y[1] < y[0] * x[1]


def integer_text(a):
    """The decimal form of an integer of at most 400 figures."""
    if abs(a) >= TOO_LONG:
        raise TooLarge("an integer has more than 400 figures")
    return str(a)


def number_text(x):
    """The text of a number."""
    check_number(x)
    above = integer_text(x[0])
    below = integer_text(x[1])
    if x[1] == 1:
        return above
    return f"{above}/{below}"


def read_integer(text):
    """The integer with a decimal form of at most 400 figures, or None."""
    figures = text.removeprefix("-")
    if not 1 <= len(figures) <= MOST_FIGURES:
        return None
    if any([figure not in "0123456789" for figure in figures]):
        return None
    if figures[0] == "0" and text != "0":
        return None
    return int(text)


def read_number(text):
    """The number with a text."""
    above, bar, below = text.partition("/")
    a = read_integer(above)
    b = 1
    if bar == "/":
        b = read_integer(below)
        # 1 is never written below the bar, and the rest is_number tells.
        if b == 1:
            raise Malformed(0)
    if a is None or b is None or not is_number((a, b)):
        raise Malformed(0)
    return (a, b)


def content(integers):
    """The greatest common divisor of some integers, 0 if they are all 0."""
    shared = 0
    for a in integers:
        shared = gcd(shared, a)
        if shared == 1:
            return 1
    return shared


def primitive(integers):
    """The integers, divided by their greatest common divisor, as a tuple."""
    shared = content(integers)
    if shared > 1:
        return tuple([a // shared for a in integers])
    return tuple(integers)


def over_one_divisor(row):
    """The list of integers that, all over one divisor above 0, are a row of numbers; and the divisor."""
    divisor = 1
    for x in row:
        check_number(x)
        divisor = lcm(divisor, x[1])
    return [x[0] * (divisor // x[1]) for x in row], divisor


def cleared(row):
    """The integers without a common divisor that are a multiple of a row of numbers."""
    integers, _ = over_one_divisor(row)
    return primitive(integers)


def numbers_of(integers):
    """Integers as a row of numbers."""
    return tuple([(a, 1) for a in integers])


def negated(integers):
    """The integers multiplied by -1, as a tuple."""
    return tuple([-a for a in integers])

"""The errors of the program: one class for each kind of failure."""


class PlaneError(ValueError):
    """Any failure that the program tells."""


class NotNumber(PlaneError):
    """A pair of integers is no fraction in lowest terms."""


class NotMatrix(PlaneError):
    """A list of rows is no matrix of the told shape."""


class NotPoint(PlaneError):
    """A tuple does not have a number for each letter."""


class NotPlanes(PlaneError):
    """Tuples of integers are no list of planes."""


class NotRow(PlaneError):
    """A string is no row of sides for a list of planes."""


class NotFlat(PlaneError):
    """A tuple of indexes is no flat of a list of planes."""


class NotSum(PlaneError):
    """Terms are no sum of products of planes."""


class NotPoly(PlaneError):
    """Terms are no polynomial, or polynomials no derivation."""


class NotGraph(PlaneError):
    """Steps or edges are no graph of the told kind."""


class NotStrokes(PlaneError):
    """Tuples of integers are no strokes."""


class NotSigns(PlaneError):
    """Strings are no signs of the told form."""


class BadNumber(PlaneError):
    """An integer, an index or a number of entries is not one that is allowed."""


class NoAnswer(PlaneError):
    """What is asked for does not exist."""


class TooLarge(PlaneError):
    """What is asked for goes beyond a told bound."""


class Malformed(PlaneError):
    """A text is none of the told form; `at` tells where."""

    def __init__(self, at):
        self.at = at


class BadJournal(PlaneError):
    """A record is none that a journal writes; `row` tells where."""

    def __init__(self, row):
        self.row = row


class OpenTrial(PlaneError):
    """A trial of a journal is in the way, or is missing."""

"""The texts of planes, lists of planes and points."""

from planeworth.errors import Malformed, NotPlanes
from planeworth.numbers import number_text, read_integer, read_number
from planeworth.planes import Planes, check_letters, check_point, is_plane


def word_of(integers):
    """The decimal forms of integers with commas between them."""
    return ",".join([str(a) for a in integers])


def plane_word(n, plane):
    """The word of a plane."""
    if not is_plane(n, plane):
        raise NotPlanes("a tuple is no plane")
    return word_of(plane)


def text_of_planes(planes):
    """The text of a list of planes."""
    return " ".join([str(planes.n)] + [word_of(plane) for plane in planes.planes()])


def plane_or_none(n, word):
    """The plane with a word, or None."""
    integers = [read_integer(piece) for piece in word.split(",")]
    if None in integers or not is_plane(n, tuple(integers)):
        return None
    return tuple(integers)


def read_plane(n, word):
    """The plane with a word."""
    check_letters(n)
    plane = plane_or_none(n, word)
    if plane is None:
        raise Malformed(0)
    return plane


def read_planes(text):
    """The list of planes with a text."""
    words = text.split(" ")
    if words[0] not in ("1", "2", "3", "4"):
        raise Malformed(0)
    n = int(words[0])
    rows = []
    for k, word in enumerate(words):
        if k > 0:
            plane = plane_or_none(n, word)
            if plane is None:
                raise Malformed(k)
            rows.append(plane)
    return Planes(n, rows)


def text_of_point(n, point):
    """The text of a point."""
    check_point(n, point)
    return ",".join([number_text(x) for x in point])


def read_point(n, text):
    """The point with a text."""
    check_letters(n)
    pieces = text.split(",")
    if len(pieces) != n:
        raise Malformed(0)
    return tuple([read_piece(pieces, k) for k in range(n)])


def read_piece(pieces, k):
    """The number with a piece of a text; the error tells the index of the piece."""
    try:
        return read_number(pieces[k])
    except Malformed:
        raise Malformed(k) from None

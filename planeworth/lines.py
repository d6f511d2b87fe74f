"""Lines of text for the desk, and the words in them."""

from planeworth.numbers import read_integer

MOST_NAME = 12
SMALL_LETTERS = "abcdefghijklmnopqrstuvwxyz"
MOST_SHORT = 2


def words_of(line):
    """The list of the words of a line, or None if it is malformed."""
    words = line.split(" ")
    if any([word == "" for word in words]) or any([not "!" <= letter <= "~" for word in words for letter in word]):
        return None
    return words


def is_name(word):
    """Whether a string is 1 to 12 small letters."""
    return 1 <= len(word) <= MOST_NAME and all([letter in SMALL_LETTERS for letter in word])


def number_in(word):
    """The integer from 0 to 99 with a decimal form, or None."""
    if len(word) > MOST_SHORT or word.startswith("-"):
        return None
    return read_integer(word)


def integers_in(word):
    """The list of the integers whose decimal forms with commas between them are a string, or None."""
    found = [read_integer(piece) for piece in word.split(",")]
    if None in found:
        return None
    return found

"""Sums of products of planes, their texts, and relations that tell what is 0."""

from planeworth.circuits import check_size, is_empty, is_tied
from planeworth.errors import BadNumber, Malformed, NotSum, TooLarge
from planeworth.numbers import ONE, ZERO, check_number, minus, number_text, plus, read_integer, read_number, times
from planeworth.planes import MOST_PLANES, ascends
from planeworth.texts import word_of


def is_product(planes, product):
    """Whether a tuple has ascending indexes of the list."""
    return all([0 <= at < len(planes) for at in product]) and ascends(product)


def order_sign(indexes):
    """1 if the number of pairs that stand the wrong way round is even, otherwise -1."""
    wrong = len([at for k, at in enumerate(indexes) for other in indexes[k + 1:] if at > other])
    return -1 if wrong % 2 == 1 else 1


def gathered(planes, size, terms):
    """The dict of the numbers that are not 0, by their products in ascending order."""
    found = {}
    for product, x in terms:
        if len(product) != size or not is_product(planes, product):
            raise NotSum("a term has no product of the size")
        check_number(x)
        found[product] = plus(found.get(product, ZERO), x)
    return {product: found[product] for product in sorted(found) if found[product] != ZERO}


def multiplied(terms, others):
    """The list of the terms that the terms of one sum, multiplied by those of another one, make."""
    made = []
    for product, x in terms:
        for other, y in others:
            if not any([at in product for at in other]):
                z = times(x, y)
                if order_sign(product + other) < 0:
                    z = minus(ZERO, z)
                made.append((tuple(sorted(product + other)), z))
    return made


class Sum:
    """A sum of products of one size, each with a number."""

    def __init__(self, planes, size, terms):
        check_size(size)
        self.base = planes
        self.size = size
        self._numbers = gathered(planes, size, terms)

    def __len__(self):
        return len(self._numbers)

    def __eq__(self, other):
        return (isinstance(other, Sum) and self.base == other.base and self.size == other.size
                and self._numbers == other._numbers)

    def terms(self):
        """The list of the pairs of a product and its number that is not 0, ascending."""
        return list(self._numbers.items())

    def at(self, product):
        """The number of a product."""
        if len(product) != self.size or not is_product(self.base, product):
            raise NotSum("a tuple is no product of the size")
        return self._numbers.get(product, ZERO)

    def check_base(self, other):
        """Raise BadNumber if the lists of planes differ."""
        if self.base != other.base:
            raise BadNumber("the lists of planes differ")

    def check_kind(self, other):
        """Raise BadNumber if the lists of planes or the sizes differ."""
        self.check_base(other)
        if self.size != other.size:
            raise BadNumber("the sizes differ")

    def __add__(self, other):
        self.check_kind(other)
        return Sum(self.base, self.size, self.terms() + other.terms())

    def __sub__(self, other):
        self.check_kind(other)
        less = [(product, minus(ZERO, x)) for product, x in other.terms()]
        return Sum(self.base, self.size, self.terms() + less)

    def __mul__(self, other):
        self.check_base(other)
        if self.size + other.size > MOST_PLANES:
            raise TooLarge("the size would be more than 12")
        return Sum(self.base, self.size + other.size, multiplied(self.terms(), other.terms()))

    def scaled(self, x):
        """The sum, multiplied by a number."""
        check_number(x)
        return Sum(self.base, self.size, [(product, times(x, y)) for product, y in self.terms()])

    def text(self):
        """The text of the sum."""
        words = [str(self.size)]
        for product, x in self.terms():
            words.append(number_text(x))
            words.append(product_word(product))
        return " ".join(words)


def product_word(product):
    """The indexes of a product with commas between them, - if there are none."""
    if product == ():
        return "-"
    return word_of(product)


def product_or_none(planes, size, word):
    """The product of a size with a word, or None."""
    pieces = [] if word == "-" else word.split(",")
    product = tuple([read_integer(piece) for piece in pieces])
    if None in product or len(product) != size or not is_product(planes, product):
        return None
    return product


def read_coefficient(word, at):
    """The number that is not 0 with a text; the error tells the number of the word."""
    try:
        x = read_number(word)
    except Malformed:
        raise Malformed(at) from None
    if x == ZERO:
        raise Malformed(at)
    return x


def read_sum(planes, text):
    """The sum with a text."""
    words = text.split(" ")
    size = read_integer(words[0])
    if size is None or not 0 <= size <= MOST_PLANES:
        raise Malformed(0)
    terms = []
    for at in range(1, len(words), 2):
        x = read_coefficient(words[at], at)
        product = None
        if at + 1 < len(words):
            product = product_or_none(planes, size, words[at + 1])
        if product is None or (len(terms) > 0 and product <= terms[-1][0]):
            raise Malformed(at + 1)
        terms.append((product, x))
    return Sum(planes, size, terms)


def zero_sum(planes, size):
    """The sum of a size without terms."""
    return Sum(planes, size, [])


def left_out(product):
    """The list of the terms that come of a product by leaving out one index, with their signs."""
    return [(product[:k] + product[k + 1:], (-1, 1) if k % 2 == 1 else ONE) for k in range(len(product))]


def ruled(planes, kind, product):
    """The list of the terms of what a rule tells for a product."""
    if kind not in ("empty", "tied"):
        raise NotSum("there is no rule of the kind")
    if not is_product(planes, product):
        raise NotSum("a tuple is no product")
    if kind == "empty":
        if not is_empty(planes, product):
            raise NotSum("the planes of the product meet")
        return [(product, ONE)]
    if not is_tied(planes, product):
        raise NotSum("the product is not tied")
    return left_out(product)


def relation_sum(planes, relation):
    """The sum of a relation."""
    kind, product, rest = relation
    terms = ruled(planes, kind, product)
    if not is_product(planes, rest):
        raise NotSum("the rest is no product")
    size = len(product) + len(rest) - (1 if kind == "tied" else 0)
    if size > MOST_PLANES:
        raise TooLarge("the size would be more than 12")
    return Sum(planes, size, multiplied([(rest, ONE)], terms))

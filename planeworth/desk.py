"""The desk: it answers lines of text, and has lists of planes, points and sums by names."""

from planeworth.alike import decide, lowered, plain
from planeworth.bodies import volume
from planeworth.counting import bounded_number, faces_numbers, polynomial, section, shrunk
from planeworth.derivations import degrees
from planeworth.errors import PlaneError
from planeworth.families import family, label
from planeworth.flats import web, weight
from planeworth.graphs import Graph, colourings
from planeworth.lines import integers_in, is_name, number_in, words_of
from planeworth.mirrors import exponents, is_closed
from planeworth.moves import coned, joined
from planeworth.planes import Planes, row_of
from planeworth.products import Sum, product_word, read_sum
from planeworth.rooms import distance, first_way, rooms, walls
from planeworth.sides import is_shown
from planeworth.texts import read_planes, read_point, text_of_planes, text_of_point

# The kinds of the words behind each command: N is the name that gets something, P, V, S and L name
# planes, a point, a sum and any of them, X is an integer from 0 to 99, R a row of sides, F a flat, W any
# word; the last one may stand for any number of words: G for steps, K for strokes, U for any words.
KINDS = {
    "make": "NU", "graph": "NXG", "family": "NWX", "point": "NXW", "sum": "NPU",
    "without": "NPX", "turned": "NPX", "shrunk": "NPX", "section": "NPX", "coned": "NP", "joined": "NPP",
    "plus": "NSS", "less": "NSS", "times": "NSS", "plain": "NS", "lowered": "NS",
    "drop": "L", "show": "L", "row": "PV", "ask": "PR", "rooms": "P", "walls": "PR", "far": "PRR", "way": "PRR",
    "poly": "P", "counts": "P", "bounded": "P", "web": "P", "weight": "PF", "closed": "P", "exponents": "P",
    "degrees": "P", "decide": "SS", "equal": "SS", "colours": "XXG", "label": "XR", "volume": "XK",
}
NAMES = "NPVSL"
NAMED = "PVSL"
MANY = "GKU"


def read_as(kind, word):
    """What a word of a kind tells, or None if it must not be such a word."""
    if kind in NAMES:
        return word if is_name(word) else None
    if kind == "X":
        return number_in(word)
    if kind == "F" and word == "-":
        return ()
    if kind in "FGK":
        found = integers_in(word)
        return None if found is None else tuple(found)
    if kind == "R" and word == "none":
        return ""
    return word


def told_by(kinds, words):
    """What the words behind a command tell, those of the last kind for many words as a list; None if one is bad."""
    single = kinds.rstrip(MANY)
    if len(words) < len(single) or (len(words) > len(single) and single == kinds):
        return None
    told = [read_as(kind, word) for kind, word in zip(single, words)]
    more = [read_as(kinds[-1], word) for word in words[len(single):]]
    if None in told or None in more:
        return None
    return told if single == kinds else told + [more]


def is_kind(kind, thing):
    """Whether a thing of the desk is what a kind of names wants."""
    if kind == "P":
        return isinstance(thing, Planes)
    if kind == "V":
        return isinstance(thing, tuple)
    return kind == "L" or isinstance(thing, Sum)


def step_of(integers):
    """The step of the integers of a word; a graph refuses those that are no three."""
    return integers + (0,) if len(integers) == 2 else integers


def graph_of(m, words):
    """The graph with the steps of some words."""
    return Graph(m, [step_of(integers) for integers in words])


def listed(words):
    """Several words of an answer."""
    if len(words) == 0:
        return "empty"
    return " ".join(words)


def integers_text(integers):
    """Several integers of an answer."""
    return listed([str(a) for a in integers])


def rows_text(rows):
    """Several rows of an answer."""
    return listed(["none" if row == "" else row for row in rows])


def yes_or_no(told):
    """The answer for True or False."""
    return "yes" if told else "no"


def text_of(thing):
    """The text of a thing of the desk."""
    if isinstance(thing, Planes):
        return text_of_planes(thing)
    if isinstance(thing, Sum):
        return thing.text()
    return text_of_point(len(thing), thing)


def made_by_words(command, told):
    """The thing that a command makes of words, and the planes of a sum."""
    match command:
        case "make":
            return read_planes(" ".join(told[0]))
        case "graph":
            return graph_of(told[0], told[1]).planes()
        case "family":
            return family(told[0], told[1])
        case "point":
            return read_point(told[0], told[1])
    return read_sum(told[0], " ".join(told[1]))


def made_of_things(command, told):
    """The thing that a command makes of things."""
    match command:
        case "without":
            return told[0].without(told[1])
        case "turned":
            return told[0].turned(told[1])
        case "shrunk":
            return shrunk(told[0], told[1])
        case "section":
            return section(told[0], told[1])
        case "coned":
            return coned(told[0])
        case "joined":
            return joined(told[0], told[1])
        case "plus":
            return told[0] + told[1]
        case "less":
            return told[0] - told[1]
        case "times":
            return told[0] * told[1]
        case "plain":
            return plain(told[0])
    return lowered(told[0])


def made_by(command, told):
    """The thing that a command makes."""
    if command in ("make", "graph", "family", "point", "sum"):
        return made_by_words(command, told)
    return made_of_things(command, told)


def rows_told(command, told):
    """The answer to a command that asks for sides, rooms and ways between them; None for another one."""
    match command:
        case "row":
            return rows_text([row_of(told[0], told[1])])
        case "ask":
            return "shown" if is_shown(told[0], told[1]) else "refused"
        case "rooms":
            return rows_text(rooms(told[0]))
        case "walls":
            return integers_text(walls(told[0], told[1]))
        case "far":
            return str(distance(told[0], told[1], told[2]))
        case "way":
            return rows_text(first_way(told[0], told[1], told[2]))
    return None


def planes_told(command, told):
    """The answer to a command that asks what a list of planes has; None for another one."""
    match command:
        case "poly":
            return integers_text(polynomial(told[0]))
        case "counts":
            return integers_text(faces_numbers(told[0]))
        case "bounded":
            return str(bounded_number(told[0]))
        case "web":
            return listed([product_word(flat) for flat in web(told[0])])
        case "weight":
            return str(weight(told[0], told[1]))
        case "closed":
            return yes_or_no(is_closed(told[0]))
        case "exponents":
            return integers_text(exponents(told[0]))
        case "degrees":
            return integers_text(degrees(told[0]))
    return None


def others_told(command, told):
    """The answer to a command that asks for something else."""
    match command:
        case "show":
            return text_of(told[0])
        case "decide":
            return decide(told[0], told[1])[0]
        case "equal":
            return yes_or_no(told[0] == told[1])
        case "colours":
            return str(colourings(graph_of(told[0], told[2]), told[1]))
        case "label":
            return integers_text(label(told[0], told[1]))
    return str(volume(told[0], told[1]))


def asked_by(command, told):
    """The answer to a command that asks for something."""
    found = rows_told(command, told)
    if found is None:
        found = planes_told(command, told)
    if found is None:
        found = others_told(command, told)
    return found


class Desk:
    """Lists of planes, points and sums by names; it answers lines."""

    def __init__(self):
        self._things = {}

    def names(self):
        """The sorted list of the names that have something."""
        return sorted(self._things)

    def thing(self, name):
        """The list of planes, the point or the sum of a name, or None."""
        return self._things.get(name)

    def copied(self):
        """A desk that has the same things."""
        made = Desk()
        made._things = {name: self._things[name] for name in self._things}
        return made

    def answers(self, lines):
        """The list of the answers to several lines, in order."""
        return [self.answer(line) for line in lines]

    def answer(self, line):
        """The answer to a line."""
        words = words_of(line)
        if words is None or words[0] not in KINDS:
            return "bad"
        kinds = KINDS[words[0]]
        told = told_by(kinds, words[1:])
        if told is None:
            return "bad"
        named = [(kind, word) for kind, word in zip(kinds, told) if kind in NAMED]
        for _, word in named:
            if word not in self._things:
                return f"unknown {word}"
        if not all([is_kind(kind, self._things[word]) for kind, word in named]):
            return "refused"
        if words[0] == "drop":
            del self._things[words[1]]
            return "ok"
        values = [self._things[value] if kind in NAMED else value for kind, value in zip(kinds, told)]
        return self.done(words[0], values)

    def done(self, command, values):
        """The answer to a command with what its words tell; it may be refused."""
        try:
            if KINDS[command][0] != "N":
                return asked_by(command, values)
            thing = made_by(command, values[1:])
        except PlaneError:
            return "refused"
        self._things[values[0]] = thing
        return "ok" if isinstance(thing, tuple) else str(len(thing))

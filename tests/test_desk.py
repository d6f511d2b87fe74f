"""[280] to [286]: the desk."""

import unittest
from itertools import product
from random import Random

from planeworth.alike import are_alike, decide, lowered, plain
from planeworth.bodies import volume
from planeworth.counting import bounded_number, faces_numbers, polynomial, section, shrunk
from planeworth.derivations import degrees
from planeworth.desk import Desk
from planeworth.errors import PlaneError
from planeworth.families import family, label
from planeworth.flats import web, weight
from planeworth.graphs import Graph, colourings
from planeworth.mirrors import exponents, is_closed
from planeworth.moves import coned, joined
from planeworth.planes import row_of
from planeworth.products import Sum, read_sum
from planeworth.rooms import distance, first_way, rooms, walls
from planeworth.sides import is_shown
from planeworth.texts import read_planes, read_point, text_of_planes, text_of_point
from tests.helpers import all_rows, random_planes

EXAMPLE = "make a 2 1,0,0 0,1,0 1,1,1"
# A name for each list, point and sum that the tests use.
SETTING = ("make a 2 1,0,0 0,1,0 1,1,1", "make b 2 1,0,0 0,1,0 1,1,0", "make e 1", "make d 3", "make l 1 1,0 1,1",
           "family f signs 2", "make c 3 1,0,0,0 0,1,0,0 0,0,1,0 1,1,1,0", "point p 2 1/2,1/3", "point q 1 7",
           "point r 3 0,-1/2,5", "sum s b 2 1 1,2", "sum t b 2 -1 0,1 1 0,2", "sum u b 1 1/2 0", "sum v a 2 1 0,1",
           "sum z b 2", "sum o b 0 2 -")
LISTS = {"a": "2 1,0,0 0,1,0 1,1,1", "b": "2 1,0,0 0,1,0 1,1,0", "e": "1", "d": "3", "l": "1 1,0 1,1",
         "f": "2 1,0,0 0,1,0 1,-1,0 1,1,0", "c": "3 1,0,0,0 0,1,0,0 0,0,1,0 1,1,1,0"}
POINTS = {"p": "1/2,1/3", "q": "7", "r": "0,-1/2,5"}
SUMS = {"s": "2 1 1,2", "t": "2 -1 0,1 1 0,2", "u": "1 1/2 0", "v": "2 1 0,1", "z": "2", "o": "0 2 -"}


def desk():
    found = Desk()
    for line in SETTING:
        assert found.answer(line) not in ("bad", "refused"), line
    return found


def state(found):
    """What a desk has, by names."""
    return {name: shown(found.thing(name)) for name in found.names()}


def shown(thing):
    if isinstance(thing, tuple):
        return thing
    return (text_of_planes(thing.base), thing.text()) if isinstance(thing, Sum) else text_of_planes(thing)


def things():
    """The things by their names, made without a desk."""
    found = {name: read_planes(text) for name, text in LISTS.items()}
    found.update({name: read_point(text.count(",") + 1, text) for name, text in POINTS.items()})
    found.update({name: read_sum(found["a" if name == "v" else "b"], text) for name, text in SUMS.items()})
    return found


def words(entries):
    return " ".join(entries) if entries else "empty"


def integers(entries):
    return words([str(k) for k in entries])


def rows(entries):
    return words([row or "none" for row in entries])


def flat_word(flat):
    return ",".join(map(str, flat)) or "-"


def due(call):
    """The answer that a call makes, refused if it raises an error of the program."""
    try:
        return call()
    except PlaneError:
        return "refused"


class TestMaking(unittest.TestCase):

    def same(self, line, thing, answer):
        """The line puts the thing under the name n, and no other name has something else then."""
        found = desk()
        before = state(found)
        self.assertEqual(found.answer(line), answer, line)
        if answer == "refused":
            self.assertEqual(state(found), before)
        else:
            before["n"] = shown(thing)
            self.assertEqual(state(found), before)

    def made(self, line, call):
        try:
            thing = call()
        except PlaneError:
            self.same(line, None, "refused")
            return
        self.same(line, thing, "ok" if isinstance(thing, tuple) else str(len(thing)))

    def test_texts_of_planes(self):
        for text in ("2 1,0,0 0,1,0", "1", "4", "3 1,0,0,7", "2 1,0,0 -1,0,0", "2 2,0,0", "5", "0", "2 1,0", "x", "2 1,0,0,0",
                     "1 " + " ".join(f"1,{k}" for k in range(12)), "1 " + " ".join(f"1,{k}" for k in range(13)), "2 01,0,0"):
            self.made(f"make n {text}", lambda: read_planes(text))
        self.same("make n", None, "refused")

    def test_graphs(self):
        for m, steps in ((1, []), (2, [(0, 1, 0)]), (2, [(0, 1, 9), (1, 2, -9)]), (2, [(0, 1, 10)]), (2, [(1, 0, 0)]),
                         (0, []), (5, []), (99, []), (3, [(0, 1, 0), (0, 1, 0)]), (4, [(0, 4, 1), (0, 1, 0), (2, 3, -1)])):
            line = f"graph n {m}" + "".join(" " + ",".join(map(str, step)) for step in steps)
            self.made(line, lambda: Graph(m, steps).planes())
        self.same("graph n 2 0,1 1,2,3", Graph(2, [(0, 1, 0), (1, 2, 3)]).planes(), "2")
        for word in ("0", "0,1,2,3", "0,1,0,0", "7"):
            self.same(f"graph n 2 {word}", None, "refused")
            self.same(f"graph n 2 0,1 {word}", None, "refused")

    def test_families(self):
        for word in ("axes", "pairs", "even", "signs", "six", "parking", "ballot", "apart", "above", "other", "axes,", "1"):
            for m in (0, 1, 2, 3, 4, 5, 99):
                self.made(f"family n {word} {m}", lambda: family(word, m))

    def test_points(self):
        for n, text in ((1, "0"), (2, "1/2,-3"), (4, "1,2,3,4"), (2, "1"), (1, "1,2"), (0, "1"), (5, "1,2,3,4,5"), (2, "2/4,1"),
                        (3, "a,b,c"), (1, "-"), (99, "1"), (1, "9" * 400), (1, "9" * 401)):
            self.made(f"point n {n} {text}", lambda: read_point(n, text))

    def test_sums(self):
        base = read_planes(LISTS["b"])
        for text in ("2 1 0,1", "2", "0 1/2 -", "13", "2 1 1,0", "2 0 0,1", "2 1", "x", "2 1 0,1 1/3 0,2", "2 1 0,2 1/3 0,1", "3 1 0,1,2"):
            self.made(f"sum n b {text}", lambda: read_sum(base, text))
        self.same("sum n b", None, "refused")
        self.same("sum n p 2", None, "refused")
        self.same("sum n s 2", None, "refused")

    def test_lists_made_of_lists(self):
        told = things()
        calls = {"without": lambda one, k: one.without(k), "turned": lambda one, k: one.turned(k), "shrunk": shrunk,
                 "section": section}
        for word, call in calls.items():
            for name in LISTS:
                for k in (0, 1, 2, 3, 4, 99):
                    self.made(f"{word} n {name} {k}", lambda: call(told[name], k))
            for name in ("p", "s"):
                self.same(f"{word} n {name} 0", None, "refused")
        for name in LISTS:
            self.made(f"coned n {name}", lambda: coned(told[name]))
            for other in LISTS:
                self.made(f"joined n {name} {other}", lambda: joined(told[name], told[other]))
        for line in ("coned n p", "coned n s", "joined n a p", "joined n s a", "joined n q q"):
            self.same(line, None, "refused")

    def test_sums_made_of_sums(self):
        told = things()
        for one, other in product(SUMS, repeat=2):
            self.made(f"plus n {one} {other}", lambda: told[one] + told[other])
            self.made(f"less n {one} {other}", lambda: told[one] - told[other])
            self.made(f"times n {one} {other}", lambda: told[one] * told[other])
        for one in SUMS:
            self.made(f"plain n {one}", lambda: plain(told[one]))
            self.made(f"lowered n {one}", lambda: lowered(told[one]))
        for word in ("plain", "lowered"):
            self.same(f"{word} n a", None, "refused")
            self.same(f"{word} n p", None, "refused")
        for word in ("plus", "less", "times"):
            for pair in ("s a", "a s", "p s", "s q", "a b", "a a"):
                self.same(f"{word} n {pair}", None, "refused")

    def test_what_was_there(self):
        found = desk()
        for line in ("make s 1 1,0", "point s 1 5", "sum s b 1", "family a axes 3", "make p 2"):
            found.answer(line)
        self.assertEqual(found.answers(["show s", "show a", "show p", "show u"]),
                         ["1", "3 1,0,0,0 0,1,0,0 0,0,1,0", "2", "1 1/2 0"])

    def test_the_same_name_as_target_and_source(self):
        found = desk()
        told = things()
        lines = ["without a a 2", "turned a a 0", "coned a a", "joined e e e", "plus s s t", "times u u u", "lowered t t", "plain v v",
                 "shrunk c c 3", "section b b 0", "sum l l 1 1 0", "less o o o"]
        for line in lines:
            self.assertNotIn(found.answer(line), ("bad", "refused"))
        self.assertEqual(found.thing("a"), coned(told["a"].without(2).turned(0)))
        self.assertEqual(found.thing("e"), read_planes("2"))
        self.assertEqual(found.thing("s"), told["s"] + told["t"])
        self.assertEqual(found.thing("u"), told["u"] * told["u"])
        self.assertEqual(found.thing("t"), lowered(told["t"]))
        self.assertEqual(found.thing("c"), shrunk(told["c"], 3))
        self.assertEqual(found.thing("b"), section(told["b"], 0))
        self.assertEqual(found.thing("l"), read_sum(told["l"], "1 1 0"))
        self.assertEqual(found.answer("show o"), "0")
        # The sums of the old list b have it still.
        self.assertEqual(found.thing("u").base, told["b"])

    def test_dropped_names(self):
        found = desk()
        for name in ("a", "p", "s"):
            self.assertEqual(found.answers([f"drop {name}", f"show {name}", f"drop {name}"]),
                             ["ok", f"unknown {name}", f"unknown {name}"])
            self.assertIsNone(found.thing(name))
        self.assertEqual(len(found.names()), len(SETTING) - 3)
        self.assertEqual(found.answer("show v"), "2 1 0,1")


class TestAsking(unittest.TestCase):

    def setUp(self):
        self.desk = desk()
        self.told = things()

    def same(self, line, call):
        before = state(self.desk)
        self.assertEqual(self.desk.answer(line), due(call), line)
        self.assertEqual(state(self.desk), before)

    def test_show(self):
        for name in list(LISTS) + list(POINTS) + list(SUMS):
            text = LISTS.get(name) or POINTS.get(name) or SUMS[name]
            self.assertEqual(self.desk.answer(f"show {name}"), text)
        self.desk.answer("point w 2 " + "9" * 400 + ",1/" + "7" * 400)
        self.assertEqual(self.desk.answer("show w"), "9" * 400 + ",1/" + "7" * 400)
        self.desk.answer("sum w b 0 " + "9" * 300 + " -")
        self.desk.answer("times w w w")
        self.assertEqual(self.desk.answer("show w"), "refused")

    def test_rows_of_points(self):
        for name in LISTS:
            for point in POINTS:
                self.same(f"row {name} {point}", lambda: rows([row_of(self.told[name], self.told[point])]))
        self.assertEqual(self.desk.answers(["row e q", "row d r", "row a p", "row a q"]), ["none", "none", "++-", "refused"])
        for line in ("row p a", "row a a", "row a s", "row s p", "row p p"):
            self.assertEqual(self.desk.answer(line), "refused")

    def test_ask(self):
        for name, planes in self.told.items():
            if name in LISTS and len(planes) < 4:
                for row in all_rows(len(planes)):
                    answer = "shown" if is_shown(planes, row) else "refused"
                    self.assertEqual(self.desk.answer(f"ask {name} {row or 'none'}"), answer)
        for line in ("ask a none", "ask a ++", "ask a ++x", "ask e +", "ask e 0", "ask p +", "ask s none"):
            self.assertEqual(self.desk.answer(line), "refused")

    def test_ask_and_rooms(self):
        for name in LISTS:
            every = self.desk.answer(f"rooms {name}").split(" ")
            for row in all_rows(len(self.told[name]), "+-"):
                word = row or "none"
                self.assertEqual(self.desk.answer(f"ask {name} {word}") == "shown", word in every)

    def test_rooms(self):
        for name in LISTS:
            planes = self.told[name]
            self.same(f"rooms {name}", lambda: rows(rooms(planes)))
            if len(planes) > 4:
                continue
            for one in all_rows(len(planes), "+-") + ["+" * (len(planes) + 1), "x"]:
                self.same(f"walls {name} {one or 'none'}", lambda: integers(walls(planes, one)))
                for other in all_rows(len(planes), "+-")[::3] + ["++0"]:
                    pair = f"{name} {one or 'none'} {other or 'none'}"
                    self.same(f"far {pair}", lambda: str(distance(planes, one, other)))
                    self.same(f"way {pair}", lambda: rows(first_way(planes, one, other)))
        answers = self.desk.answers(["rooms e", "walls e none", "far e none none", "way e none none", "walls a none", "way l -- ++"])
        self.assertEqual(answers, ["none", "empty", "0", "none", "refused", "-- +- ++"])
        for line in ("rooms p", "walls s +", "far p + +", "way t + +"):
            self.assertEqual(self.desk.answer(line), "refused")
        self.assertEqual(self.desk.answer("make w " + text_of_planes(random_planes(60, 4, 12, 1000))), "12")
        self.assertEqual(self.desk.answer("rooms w"), "refused")

    def test_what_a_list_has(self):
        for name in LISTS:
            planes = self.told[name]
            self.same(f"poly {name}", lambda: integers(polynomial(planes)))
            self.same(f"counts {name}", lambda: integers(faces_numbers(planes)))
            self.same(f"bounded {name}", lambda: str(bounded_number(planes)))
            self.same(f"web {name}", lambda: words([flat_word(flat) for flat in web(planes)]))
            self.same(f"closed {name}", lambda: "yes" if is_closed(planes) else "no")
            self.same(f"exponents {name}", lambda: integers(exponents(planes)))
            self.same(f"degrees {name}", lambda: integers(degrees(planes)))
            for flat in web(planes) + [(9,), (-1,), (1, 0), (0, 0), (0, 1, 2, 3, 4)]:
                self.same(f"weight {name} {flat_word(flat)}", lambda: str(weight(planes, flat)))
        for word in ("poly", "counts", "bounded", "web", "closed", "exponents", "degrees"):
            self.assertEqual(self.desk.answer(f"{word} p"), "refused")
            self.assertEqual(self.desk.answer(f"{word} s"), "refused")
        answers = self.desk.answers(["web e", "weight e -", "weight a -", "weight b 0,1,2", "weight p -", "exponents a", "degrees a",
                                     "degrees c", "closed a", "closed f", "degrees f"])
        self.assertEqual(answers, ["-", "1", "1", "2", "refused", "refused", "refused", "refused", "no", "yes", "1 3"])

    def test_sums(self):
        seen = set()
        for one, other in product(SUMS, repeat=2):
            self.same(f"decide {one} {other}", lambda: decide(self.told[one], self.told[other])[0])
            answer = self.desk.answer(f"equal {one} {other}")
            self.assertEqual(answer, "yes" if self.told[one] == self.told[other] else "no")
            if answer == "yes":
                self.assertEqual(self.desk.answer(f"decide {one} {other}"), "alike")
            seen.add((answer, self.desk.answer(f"decide {one} {other}")))
        self.assertEqual(seen, {("yes", "alike"), ("no", "alike"), ("no", "apart"), ("no", "refused")})
        self.assertTrue(are_alike(self.told["s"], self.told["t"]))
        for word in ("decide", "equal"):
            for pair in ("a a", "p p", "s a", "a s", "s p"):
                self.assertEqual(self.desk.answer(f"{word} {pair}"), "refused")

    def test_colours(self):
        for m, q, edges in ((2, 3, [(0, 1), (0, 2), (1, 2)]), (4, 99, [(0, 4), (1, 2)]), (1, 0, []), (4, 2, []), (5, 2, []), (0, 2, []),
                            (2, 3, [(0, 1), (0, 1)]), (2, 3, [(0, 3)])):
            line = f"colours {m} {q}" + "".join(f" {i},{j}" for i, j in edges)
            self.same(line, lambda: str(colourings(Graph(m, [(i, j, 0) for i, j in edges]), q)))
        answers = self.desk.answers(["colours 2 3 0,1,0 1,2", "colours 2 3 0,1,1", "colours 2 3 0,1,0,0", "colours 2 3 0"])
        self.assertEqual(answers, ["12", "refused", "refused", "refused"])

    def test_labels(self):
        for m, row in ((1, "--"), (1, "+-"), (2, "+-+-+-"), (3, "-" * 12), (4, "+" * 20), (0, "none"), (1, "none"), (1, "+0"), (1, "+"),
                       (2, "+-+-+0"), (1, "ab"), (99, "++")):
            self.same(f"label {m} {row}", lambda: integers(label(m, "" if row == "none" else row)))

    def test_volumes(self):
        for n, strokes in ((2, [(1, 0), (0, 1), (1, 1)]), (1, []), (4, []), (1, [(-3,)]), (3, [(1, 2, 3), (4, 5, 6), (7, 8, 10)]), (5, []),
                           (0, []), (2, [(1,)]), (2, [(0, 0)]), (2, [(101, 0)]), (1, [(1,)] * 8), (1, [(1,)] * 9)):
            line = f"volume {n}" + "".join(" " + ",".join(map(str, stroke)) for stroke in strokes)
            self.same(line, lambda: str(volume(n, strokes)))
        self.assertEqual(self.desk.answer("volume 2 1,0 0,1 1,1"), "3")


# A right line for each command, by the setting.
LINES = ["make n 2 1,0,0", "graph n 2 0,1", "family n axes 2", "point n 2 1,2", "sum n b 2 1 0,1", "show a", "drop a", "without n a 0",
         "turned n a 0", "shrunk n a 0", "section n b 0", "coned n a", "joined n a b", "plus n s t", "less n s t", "times n u u",
         "plain n s", "lowered n s", "row a p", "ask a +++", "rooms a", "walls a +++", "far a +++ ++-", "way a +++ ++-", "poly a", "counts a",
         "bounded a", "web a", "weight a 0", "closed a", "exponents b", "degrees b", "decide s t", "equal s t", "colours 2 3 0,1",
         "label 1 ++", "volume 2 1,0 0,1"]
MANY = ("make", "graph", "sum", "colours", "volume")
TARGETED = LINES[:5] + LINES[7:18]


class TestAnswers(unittest.TestCase):

    def stays(self, line, answer):
        found = desk()
        before = state(found)
        self.assertEqual(found.answer(line), answer, line)
        self.assertEqual(state(found), before, line)

    def test_right_lines(self):
        for line in LINES:
            self.assertNotIn(desk().answer(line).split(" ")[0], ("bad", "unknown", "refused"), line)

    def test_malformed_lines(self):
        for line in LINES:
            for bad in (" " + line, line + " ", line.replace(" ", "  ", 1), line.replace(" ", "\t", 1), line + "\n", "\n" + line,
                        line + "\u00e9", line + "\x7f", line + " \u00e9", line.replace(" ", "\u00a0", 1)):
                self.stays(bad, "bad")
        for line in ("", " ", "\n", "\t"):
            self.stays(line, "bad")

    def test_commands_that_are_none(self):
        for line in ("Make a 2", "made a 2", "rows a", "names", "a", "answer a", "thing a", "2 1,0,0", "make, a 2", "> show a", "planes a"):
            self.stays(line, "bad")

    def test_too_few_and_too_many_words(self):
        for line in LINES:
            parts = line.split(" ")
            # What is needed at least: the words in front of those that may be missing.
            least = {"make": 2, "graph": 3, "sum": 3, "colours": 3, "volume": 2}.get(parts[0], len(parts))
            for many in range(1, least):
                self.stays(" ".join(parts[:many]), "bad")
            if parts[0] not in MANY:
                for more in ("a", "0", "+++", "s"):
                    self.stays(f"{line} {more}", "bad")
            else:
                self.assertNotEqual(desk().answer(" ".join(parts[:least])), "bad")
                self.assertNotEqual(desk().answer(f"{line} 1,2,2"), "bad")

    def test_names_that_are_none(self):
        for line in LINES:
            parts = line.split(" ")
            for at, word in enumerate(parts):
                if at and word in desk().names() or (at == 1 and word == "n"):
                    for bad in ("A", "a1", "abcdefghijklm", "1", "a,b", "-", "+", "a_"):
                        self.stays(" ".join(parts[:at] + [bad] + parts[at + 1:]), "bad")

    def test_integers_that_are_none(self):
        for line in ("graph n X 0,1", "family n axes X", "point n X 1,2", "without n a X", "turned n a X", "shrunk n a X",
                     "section n b X", "colours X 3 0,1", "colours 2 X 0,1", "label X ++", "volume X 1,0"):
            for bad in ("00", "01", "100", "-1", "+1", "a", "1,0", "-", "1.0", "999"):
                self.stays(line.replace("X", bad), "bad")
            for good in ("0", "1", "9", "99"):
                self.assertNotEqual(desk().answer(line.replace("X", good)), "bad")

    def test_words_of_steps_strokes_and_flats(self):
        for line in ("graph n 2 W", "graph n 2 0,1 W", "colours 2 3 W", "volume 2 W", "volume 2 1,0 W", "weight a W"):
            for bad in ("a", "0,", ",1", "0,,1", "01", "-0", "+1", "0,a", "0;1", "1" * 401, "0," + "1" * 401, "none", "0/1"):
                self.stays(line.replace("W", bad), "bad")
            # Not bad, though no step, no stroke and no flat.
            self.stays(line.replace("W", "7" * 400), "refused")
            self.stays(line.replace("W", "0,-" + "7" * 400 + ",1,1,1"), "refused")
            if not line.startswith("weight"):
                self.stays(line.replace("W", "-"), "bad")
        self.stays("weight a -", "1")
        # Any words may stand behind make and sum, and for a row.
        for line in ("make n \u007e", "make n a b c", "sum n b x y", "ask a %", "walls a 77", "label 1 x", "family n - 2", "point n 2 -"):
            self.stays(line, "refused")

    def test_unknown_names(self):
        for line in LINES:
            parts = line.split(" ")
            for at, word in enumerate(parts):
                targeted = line in TARGETED and at == 1
                if at and word in desk().names() and not targeted:
                    self.stays(" ".join(parts[:at] + ["nope"] + parts[at + 1:]), "unknown nope")
        for line, word in (("joined n x y", "x"), ("joined n a y", "y"), ("joined x x a", "x"), ("plus n y x", "y"), ("row x y", "x"),
                           ("row a y", "y"), ("row x p", "x"), ("decide s x", "x"), ("equal y x", "y"), ("times x y x", "y"),
                           ("drop none", "none"), ("show abcdefghijkl", "abcdefghijkl")):
            self.stays(line, f"unknown {word}")

    def test_bad_goes_ahead_of_unknown(self):
        for line in ("joined n x Y", "row x 7", "without n x 100", "weight x a", "weight x 01", "ask x", "ask x + +", "plus n x", "sum N x 2",
                     "shrunk n x -1", "colours 2 3 x", "walls x"):
            self.stays(line, "bad")

    def test_unknown_goes_ahead_of_refused(self):
        # The first word names something else than what is wanted, the second one nothing.
        for line, word in (("joined n p x", "x"), ("row s x", "x"), ("plus n a x", "x"), ("decide p x", "x"), ("less n x a", "x"),
                           ("joined n x p", "x"), ("sum n x z z", "x"), ("without n x 99", "x"), ("ask x zzz", "x"), ("weight x 99", "x")):
            self.stays(line, f"unknown {word}")

    def test_other_things_than_wanted(self):
        for line in ("row a s", "row p p", "row a b", "ask p +", "poly s", "plain n a", "plus n s p", "sum n s 2", "weight s -", "coned n q",
                     "joined n a u", "decide a a", "equal a a", "equal s a", "lowered n q"):
            self.stays(line, "refused")

    def test_errors_of_each_kind(self):
        for line in ("make n 2 2,4,6", "make n 2 1,0,0 1,0,0", "without n a 3", "shrunk n l 0", "section n a 0", "coned n w", "joined n c c",
                     "plus n s u", "plus n s v", "times n s v", "lowered n v", "lowered n o", "row a q", "ask a ++++", "walls a --+",
                     "far a +++ --+", "far a +++ +", "exponents a", "degrees a", "degrees c", "weight a 0,1,2", "decide s u", "decide s v",
                     "colours 2 3 0,1,1", "graph n 2 0,1 0,1", "label 4 +", "label 1 +0", "volume 2 0,0", "family n six 2", "point n 2 1",
                     "sum n b 2 1 0,9"):
            found = desk()
            found.answer("make w 4")
            before = state(found)
            self.assertEqual(found.answer(line), "refused", line)
            self.assertEqual(state(found), before)

    def test_results_may_be_changed(self):
        found = desk()
        names = found.names()
        self.assertEqual(names, sorted(LISTS | POINTS | SUMS))
        names.clear()
        found.answers(["show a", "show b"]).clear()
        found.thing("a").planes().clear()
        found.thing("s").terms().clear()
        self.assertEqual(found.names(), sorted(LISTS | POINTS | SUMS))
        self.assertEqual(found.answers(["show a", "show s"]), [LISTS["a"], SUMS["s"]])
        lines = ["show a", "drop a"]
        found.answers(lines)
        self.assertEqual(lines, ["show a", "drop a"])

    def test_things(self):
        found = desk()
        for name, thing in things().items():
            self.assertEqual(found.thing(name), thing)
            self.assertIs(type(found.thing(name)), type(thing))
        for name in ("x", "", "A", "make", "a "):
            self.assertIsNone(found.thing(name))
        self.assertEqual(text_of_point(2, found.thing("p")), "1/2,1/3")

    def test_a_new_desk(self):
        found = Desk()
        self.assertEqual((found.names(), found.thing("a"), found.answers([])), ([], None, []))
        other = Desk()
        found.answer("make a 2")
        self.assertEqual(other.names(), [])

    def test_lines_behind_do_not_count(self):
        draw = Random(7)
        every = list(SETTING) + LINES + ["drop a", "drop s", "make a 1 1,0", "bad  line", "show n", "decide n s", "rooms n", "drop n"]
        for _ in range(6):
            lines = [draw.choice(every) for _ in range(40)]
            whole = Desk().answers(lines)
            for k in (0, 1, 7, 23, 39):
                self.assertEqual(Desk().answers(lines[:k]), whole[:k])
            single = Desk()
            self.assertEqual([single.answer(line) for line in lines], whole)

    def test_example(self):
        lines = [EXAMPLE, "poly a", "ask a --+", "point v 2 1/2,1/3", "row a v", "weight a 0,1", "family a signs 2", "exponents a"]
        self.assertEqual(Desk().answers(lines), ["3", "3 -3 1", "refused", "ok", "++-", "1", "4", "1 3"])


if __name__ == "__main__":
    unittest.main()

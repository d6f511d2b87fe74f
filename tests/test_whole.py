"""[0]: no function modifies its arguments, and no result shares a list with an argument or with another result."""

import importlib
import unittest
from copy import deepcopy

from planeworth.alike import decide, flags
from planeworth.certificates import tells_all
from planeworth.derivations import freedom
from planeworth.desk import Desk
from planeworth.families import family
from planeworth.graphs import Graph
from planeworth.journal import Journal
from planeworth.mirrors import mirror
from planeworth.papers import row_papers, swapped_signs
from planeworth.products import Sum, read_sum
from planeworth.texts import read_planes
from tests.helpers import EXAMPLE, pairs
from tests.test_interface import CLASSES, INTERFACE

THROUGH = read_planes("2 1,0,0 0,1,0 1,1,0")
LINE = read_planes("1 1,0 1,1")
FOUR = read_planes("3 1,0,0,0 0,1,0,0 0,0,1,0 1,1,1,0")
PARALLEL = read_planes("2 1,0,0 1,0,1")
MATRIX = [pairs(1, 2), pairs(2, 4)]
SQUARE = [pairs(1, 2), pairs(3, "1/2")]
ONE = read_sum(THROUGH, "2 1 1,2")
TWO = read_sum(THROUGH, "2 -1 0,1 1 0,2")
THREE = read_sum(THROUGH, "2 1/2 0,1")
MOVE = mirror(EXAMPLE, 2)
CHANCES = [("++-", (1, 2)), ("-++", (1, 4)), ("0+0", (1, 4))]
TRIANGLE = Graph(2, [(0, 1, 0), (0, 2, 0), (1, 2, 0)])
STROKES = [(1, 0), (0, 1), (1, 1)]
X, Y = ((1, 0), 1), ((0, 1), 1)
POLY = (Y, X)
EULER = ((X,), (Y,))
SIGNS = swapped_signs()
LINES = ["make a 1 1,0", "show a"]


def filled_desk():
    desk = Desk()
    desk.answers(["make a 2 1,0,0", "point p 1 3", "sum s a 1 1 0"])
    return desk


def filled_journal():
    journal = Journal()
    journal.answer("make a 2 1,0,0")
    return journal


# For each function, lists of arguments that it takes.
CALLS = {
    "numbers.is_number": [((1, 2),)], "numbers.check_number": [((1, 2),)], "numbers.number": [(2, 4), (3,)],
    "numbers.plus": [((1, 2), (1, 3))], "numbers.minus": [((1, 2), (1, 3))], "numbers.times": [((1, 2), (1, 3))],
    "numbers.over": [((1, 2), (1, 3))], "numbers.sign": [((1, 2),)], "numbers.is_less": [((1, 2), (1, 3))],
    "numbers.number_text": [((1, 2),)], "numbers.read_number": [("1/2",)], "numbers.cleared": [(pairs("1/2", "1/3"),)],
    "linear.check_matrix": [(2, MATRIX)], "linear.echelon": [(2, MATRIX), (2, [pairs(1, 0)])], "linear.rank": [(2, MATRIX)],
    "linear.kernel": [(2, MATRIX)], "linear.solution": [(2, MATRIX, pairs(3, 6))], "linear.clash": [(2, MATRIX, pairs(3, 7))],
    "linear.determinant": [(2, SQUARE)], "linear.inverse": [(2, SQUARE), (2, [pairs(1, 0), pairs(0, 1)])],
    "linear.matrix_product": [(2, MATRIX, 2, SQUARE), (2, MATRIX, 2, [pairs(1, 0), pairs(0, 1)])],
    "planes.is_plane": [(2, (1, 0, 0))], "planes.check_letters": [(2,)], "planes.check_point": [(2, pairs(1, 2))],
    "planes.side": [(EXAMPLE, 1, pairs(1, 2))], "planes.row_of": [(EXAMPLE, pairs(1, 2))], "planes.is_row": [(EXAMPLE, "++-")],
    "planes.check_row": [(EXAMPLE, "++-")], "planes.opposite": [(EXAMPLE, "++-")], "planes.parting": [(EXAMPLE, "++-", "-+-")],
    "planes.meet": [(EXAMPLE, (0, 1)), (EXAMPLE, ())], "planes.no_meet": [(EXAMPLE, (0, 1, 2))],
    "moves.on_stretch": [(2, pairs(1, 2), pairs(3, 4), (1, 2))], "moves.crossings": [(EXAMPLE, pairs(1, 2), pairs(-3, -4))],
    "moves.joined": [(LINE, EXAMPLE)], "moves.coned": [(EXAMPLE,)],
    "texts.plane_word": [(2, (1, 0, 0))], "texts.text_of_planes": [(EXAMPLE,)], "texts.read_plane": [(2, "1,0,0")],
    "texts.read_planes": [("2 1,0,0",)], "texts.text_of_point": [(2, pairs(1, 2))], "texts.read_point": [(2, "1,2")],
    "sides.shows": [(EXAMPLE, "++-", pairs("1/2", "1/3"))], "sides.refuses": [(EXAMPLE, "--+", pairs(-1, -1, 1))],
    "sides.is_shown": [(EXAMPLE, "++-")], "sides.decide_row": [(EXAMPLE, "++-"), (EXAMPLE, "--+")],
    "sides.point_of": [(EXAMPLE, "++-")], "sides.refusal": [(EXAMPLE, "--+")], "sides.ties": [(EXAMPLE,)],
    "sides.refusing_ties": [(EXAMPLE, "--+")], "sides.refused_part": [(EXAMPLE, "--+")],
    "rooms.rooms": [(EXAMPLE,), (read_planes("2"),)], "rooms.faces": [(EXAMPLE,)], "rooms.faces_of_dimension": [(EXAMPLE, 1)],
    "rooms.is_room": [(EXAMPLE, "++-")], "rooms.face_dimension": [(EXAMPLE, "00-")],
    "rooms.product_of_rows": [(EXAMPLE, "00-", "++-")], "rooms.distance": [(EXAMPLE, "++-", "-++")],
    "rooms.walls": [(EXAMPLE, "++-")], "rooms.neighbours": [(EXAMPLE, "++-")], "rooms.first_way": [(EXAMPLE, "++-", "-++")],
    "rooms.count_ways": [(EXAMPLE, "++-", "-++")], "rooms.belongs": [(EXAMPLE, "00-", "++-")], "rooms.faces_of": [(EXAMPLE, "++-")],
    "rooms.rooms_at": [(EXAMPLE, "00-")], "rooms.is_bounded": [(EXAMPLE, "++-")],
    "rooms.decide_bounded": [(EXAMPLE, "++-"), (EXAMPLE, "+++")], "rooms.is_hold": [(EXAMPLE, "++-", pairs(1, 1, -1))],
    "rooms.is_direction": [(EXAMPLE, "+++", pairs(1, 1))],
    "flats.meets": [(EXAMPLE, [1, 0, 1])], "flats.rank_of": [(EXAMPLE, [1, 0, 1])], "flats.flat_of": [(EXAMPLE, [1, 0, 1])],
    "flats.web": [(EXAMPLE,), (THROUGH,)], "flats.is_flat": [(EXAMPLE, (0, 1))], "flats.flat_dimension": [(EXAMPLE, (0, 1))],
    "flats.span_of": [(EXAMPLE, (0, 1), (0, 2))], "flats.meet_of": [(EXAMPLE, (0,), (2,)), (EXAMPLE, (0, 1), (2,))],
    "flats.weight": [(EXAMPLE, (0, 1)), (EXAMPLE, (0, 1), (0,))],
    "counting.polynomial": [(EXAMPLE,)], "counting.value_at": [([3, -3, 1], 2)], "counting.rooms_number": [(EXAMPLE,)],
    "counting.bounded_number": [(EXAMPLE,)], "counting.faces_numbers": [(EXAMPLE,)], "counting.shrunk": [(EXAMPLE, 2)],
    "counting.shrunk_from": [(EXAMPLE, 2)], "counting.section": [(THROUGH, 2)], "counting.is_good": [(EXAMPLE, 5)],
    "counting.points_over": [(EXAMPLE, 5)],
    "circuits.is_empty": [(EXAMPLE, (0, 1, 2))], "circuits.is_tied": [(THROUGH, (0, 1, 2))], "circuits.is_allowed": [(THROUGH, (0, 1))],
    "circuits.circuits": [(THROUGH,)], "circuits.broken": [(THROUGH,)], "circuits.allowed": [(THROUGH, 2), (THROUGH, 0)],
    "products.read_sum": [(THROUGH, "2 1 0,1")], "products.zero_sum": [(THROUGH, 2)],
    "products.relation_sum": [(THROUGH, ("tied", (0, 1, 2), ()))],
    "alike.plain": [(ONE,), (THREE,)], "alike.are_alike": [(ONE, TWO)], "alike.flags": [(THROUGH, 2), (THROUGH, 0)],
    "alike.flag_value": [(ONE, flags(THROUGH, 2)[0])], "alike.paper_sum": [(THROUGH, 2, decide(ONE, TWO)[1])],
    "alike.decide": [(ONE, TWO), (ONE, THREE)], "alike.is_answer": [(ONE, TWO, decide(ONE, TWO)), (ONE, THREE, decide(ONE, THREE))],
    "alike.lowered": [(ONE,)], "alike.form_at": [(ONE, pairs(1, 1))],
    "polys.is_poly": [(2, POLY)], "polys.check_poly": [(2, POLY)], "polys.poly_sum": [(2, POLY, ())],
    "polys.poly_product": [(2, POLY, POLY)], "polys.poly_times": [(2, POLY, 3)], "polys.slope": [(2, POLY, 0)],
    "polys.poly_value": [(2, POLY, pairs(1, 2))], "polys.plane_form": [(2, (1, 1, 0))], "polys.quotient": [(2, POLY, (1, 1, 0))],
    "polys.poly_determinant": [(2, [((X,), ()), ((), (Y,))])],
    "derivations.is_derivation": [(2, EULER)], "derivations.check_derivation": [(2, EULER)], "derivations.applied": [(2, EULER, POLY)],
    "derivations.bracket": [(2, EULER, ((Y,), ()))], "derivations.lawful": [(THROUGH, EULER)],
    "derivations.lawful_basis": [(THROUGH, 1), (THROUGH, 2)], "derivations.degree_table": [(THROUGH,), (FOUR,)],
    "derivations.degrees": [(THROUGH,)], "derivations.freedom": [(THROUGH,), (FOUR,)], "derivations.is_modular": [(THROUGH, (0,))],
    "derivations.split_chain": [(THROUGH,), (read_planes("2"),)],
    "bodies.is_strokes": [(2, STROKES)], "bodies.check_strokes": [(2, STROKES)], "bodies.planes_of": [(2, STROKES)],
    "bodies.corners": [(2, STROKES), (2, [])], "bodies.corner": [(2, STROKES, (1, 2))], "bodies.greatest": [(2, STROKES, (1, 2))],
    "bodies.placed": [(2, STROKES, pairs(1, 1)), (2, STROKES, pairs(9, 1))], "bodies.stroke_count": [(2, STROKES)],
    "bodies.volume": [(2, STROKES)], "bodies.whole_number": [(2, STROKES, 2)], "bodies.whole_inner_number": [(2, STROKES, 2)],
    "bodies.whole_points": [(2, STROKES)], "bodies.pieces": [(2, STROKES)], "bodies.graph_strokes": [(2, [(0, 1)]), (2, [])],
    "signrows.is_sign_list": [(["+", "-"],)], "signrows.check_sign_list": [(["+", "-"],)], "signrows.put_behind": [("+0", "--")],
    "signrows.opposites": [("+0", "--")], "signrows.stand_apart": [("+0", "--")], "signrows.row_fault": [(["+", "0"],), (["+", "-", "0"],)],
    "signrows.least_rows": [(["+", "-", "0"],), ([],)], "signrows.row_closure": [(1, ["+", "-"]), (1, ["+", "-", "0"])],
    "signrows.apart_from": [(1, ["+", "-"]), (1, [])], "signrows.rows_of_rooms": [(1, ["+", "-"])], "signrows.sign_circuits": [(THROUGH,)],
    "determinants.sign_of": [(3, 2, "++-", (1, 0))], "determinants.exchange_fault": [(3, 2, "++-")],
    "determinants.least_of": [(3, 2, "++-")], "determinants.signs_of": [(THROUGH,)],
    "distances.toll_table": [(EXAMPLE, pairs(2, 3, "1/2"))], "distances.toll_determinant": [(EXAMPLE, pairs(2, 3, "1/2"))],
    "distances.toll_rank": [(EXAMPLE, pairs(2, 3, "1/2"))], "distances.flat_inner": [(THROUGH, (0, 1, 2))],
    "distances.flat_exponent": [(THROUGH, (0, 1, 2))], "distances.comes_apart": [(EXAMPLE, (0, 1))],
    "distances.flat_exponents": [(THROUGH,)], "distances.lost_numbers": [(EXAMPLE, pairs(2, 1, "1/2"))],
    "distances.is_lost_numbers": [(EXAMPLE, pairs(2, 1, "1/2"), pairs(*range(7)))],
    "walks.check_chances": [(EXAMPLE, CHANCES)], "walks.step_table": [(EXAMPLE, CHANCES)],
    "walks.steps_table": [(EXAMPLE, CHANCES, k) for k in (0, 1, 2)], "walks.share": [(EXAMPLE, CHANCES, (0,))],
    "walks.shares": [(EXAMPLE, CHANCES)], "walks.diagonal_sum": [(EXAMPLE, CHANCES, 2)], "walks.after": [(EXAMPLE, CHANCES, "++-", 2)],
    "walks.reaches": [(EXAMPLE, CHANCES)], "walks.rest": [(EXAMPLE, CHANCES)], "walks.is_rest": [(EXAMPLE, CHANCES, pairs(*range(7)))],
    "walks.drawn": [(EXAMPLE, CHANCES)], "walks.away": [(EXAMPLE, CHANCES, "++-", 2)], "walks.away_bound": [(EXAMPLE, CHANCES, 2)],
    "graphs.rest_points": [(TRIANGLE, 5)], "graphs.colour_row": [(TRIANGLE,)], "graphs.colourings": [(TRIANGLE, 3)],
    "graphs.agreeing": [(TRIANGLE, 3)], "graphs.orientations": [(TRIANGLE,), (Graph(1, []),)], "graphs.heights": [(TRIANGLE, "++-")],
    "graphs.round_in": [(TRIANGLE, "+-+")], "graphs.sources": [(TRIANGLE, "++-")], "graphs.trees_number": [(TRIANGLE,)],
    "graphs.forests_number": [(TRIANGLE,)],
    "mirrors.mirror": [(EXAMPLE, 2)], "mirrors.is_closed": [(EXAMPLE,)], "mirrors.group": [(family("signs", 2),), (read_planes("2"),)],
    "mirrors.exponents": [(family("signs", 2),)], "mirrors.rooms_by_distance": [(EXAMPLE, "++-")],
    "families.family": [("signs", 2), ("parking", 2)], "families.label": [(1, "--")], "families.room_with": [(1, (1, 0))],
    "certificates.shows_row": [(2, EXAMPLE.planes(), "++-", pairs("1/2", "1/3"))],
    "certificates.refuses_row": [(2, EXAMPLE.planes(), "--+", pairs(-1, -1, 1))],
    "certificates.tells_all": [(2, EXAMPLE.planes(), row_papers(EXAMPLE))],
    "certificates.faces_told": [(2, EXAMPLE.planes(), row_papers(EXAMPLE))],
    "certificates.shows_in": [(2, STROKES, pairs(1, 1), pairs(0, 0, 1))], "certificates.shows_out": [(2, STROKES, pairs(9, 1), (1, 0))],
    "certificates.comparisons_cancel": [(9, 3, *SIGNS)],
    "shown.shows_free": [(2, THROUGH.planes(), freedom(THROUGH)[1])], "shown.shows_bound": [(3, FOUR.planes(), freedom(FOUR)[1])],
    "shown.shows_alike": [(2, THROUGH.planes(), 2, ONE.terms(), TWO.terms(), decide(ONE, TWO)[1])],
    "shown.shows_parted": [(2, THROUGH.planes(), 2, ONE.terms(), THREE.terms(), decide(ONE, THREE)[1])],
    "papers.row_papers": [(EXAMPLE,), (read_planes("2"),)], "papers.swapped_signs": [()],
    "lines.words_of": [("a b",)], "lines.is_name": [("a",)], "lines.number_in": [("7",)], "lines.integers_in": [("7,8",)],
    "journal.attempt": [(filled_journal(), LINES)], "journal.resume": [("> make a 2\n< 0\n",)],
    "planes.Planes.__init__": [(2, EXAMPLE.planes())], "planes.Planes.planes": [(EXAMPLE,)], "planes.Planes.__len__": [(EXAMPLE,)],
    "planes.Planes.__eq__": [(EXAMPLE, THROUGH)], "planes.Planes.rank": [(EXAMPLE,)], "planes.Planes.is_central": [(EXAMPLE,)],
    "planes.Planes.without": [(EXAMPLE, 1)], "planes.Planes.turned": [(EXAMPLE, 1)], "planes.Planes.only": [(EXAMPLE, (0, 1, 2))],
    "moves.Move.__init__": [(2, SQUARE, pairs(1, 2))], "moves.Move.rows": [(MOVE,)], "moves.Move.shift": [(MOVE,)],
    "moves.Move.__eq__": [(MOVE, mirror(EXAMPLE, 0))], "moves.Move.point": [(MOVE, pairs(1, 2))], "moves.Move.planes": [(MOVE, EXAMPLE)],
    "moves.Move.undone": [(MOVE,)], "moves.Move.behind": [(MOVE, mirror(EXAMPLE, 0))],
    "products.Sum.__init__": [(THROUGH, 2, ONE.terms())], "products.Sum.terms": [(ONE,)], "products.Sum.at": [(ONE, (1, 2))],
    "products.Sum.__len__": [(ONE,)], "products.Sum.__add__": [(ONE, TWO)], "products.Sum.__sub__": [(ONE, TWO)],
    "products.Sum.__mul__": [(ONE, TWO)], "products.Sum.scaled": [(ONE, (1, 2))], "products.Sum.__eq__": [(ONE, TWO)],
    "products.Sum.text": [(ONE,)],
    "graphs.Graph.__init__": [(2, TRIANGLE.steps())], "graphs.Graph.steps": [(TRIANGLE,)], "graphs.Graph.__len__": [(TRIANGLE,)],
    "graphs.Graph.__eq__": [(TRIANGLE, Graph(1, []))], "graphs.Graph.is_plain": [(TRIANGLE,)], "graphs.Graph.planes": [(TRIANGLE,)],
    "desk.Desk.__init__": [()], "desk.Desk.answer": [(filled_desk(), "show a")], "desk.Desk.answers": [(filled_desk(), LINES)],
    "desk.Desk.names": [(filled_desk(),)], "desk.Desk.thing": [(filled_desk(), "a"), (filled_desk(), "s")],
    "journal.Journal.__init__": [()], "journal.Journal.answer": [(filled_journal(), "show a")], "journal.Journal.record": [(filled_journal(),)],
    "journal.Journal.lines": [(filled_journal(),)],
}
# These change their own object, as they must.
CHANGING = ("journal.attempt", "desk.Desk.answer", "desk.Desk.answers", "journal.Journal.answer")


def function_of(name):
    parts = name.split(".")
    found = getattr(importlib.import_module(f"planeworth.{parts[0]}"), parts[1])
    return found if len(parts) == 2 or parts[2] == "__init__" else vars(found)[parts[2]]


def snap(value):
    """All that a value has, also within objects, to be compared."""
    if isinstance(value, (list, tuple)):
        return (type(value).__name__, [snap(x) for x in value])
    if isinstance(value, dict):
        return ("dict", [(snap(key), snap(x)) for key, x in value.items()])
    return (type(value).__name__, snap(vars(value))) if hasattr(value, "__dict__") else value


def lists_in(value):
    """All lists in a value, also those within lists and tuples."""
    if not isinstance(value, (list, tuple)):
        return []
    return [found for x in value for found in lists_in(x)] + ([value] if isinstance(value, list) else [])


def hidden_lists(value):
    """All lists in a value, also those that its objects keep."""
    if isinstance(value, (list, tuple)):
        return [found for x in value for found in hidden_lists(x)] + ([value] if isinstance(value, list) else [])
    if hasattr(value, "__dict__"):
        return [found for x in vars(value).values() for found in hidden_lists(x)]
    return []


def ids(found):
    return {id(one) for one in found}


class TestWhole(unittest.TestCase):

    def test_each_function_is_called(self):
        names = {f"{module}.{line.split('(')[0]}" for module, lines in INTERFACE.items() for line in lines.split()}
        names |= {f"{module}.{title}.{line.split('(')[0]}" for (module, title), lines in CLASSES.items() for line in lines.split()}
        # A trial is told by the tests of the journal.
        names -= {"journal.Journal.keep", "journal.Journal.__enter__", "journal.Journal.__exit__"}
        self.assertEqual(set(CALLS), names)

    def test_arguments_stay_and_no_list_is_shared(self):
        for name, calls in CALLS.items():
            for told in calls:
                with self.subTest(name):
                    self.look(name, function_of(name), deepcopy(told))

    def look(self, name, function, told):
        objects = told[1:] if name in CHANGING else told
        before, own = snap(objects), lists_in(told)
        result = function(*told)
        due = snap(result)
        self.assertEqual(snap(objects), before)
        self.assertFalse(ids(lists_in(result)) & ids(hidden_lists(told)))
        if name in CHANGING:
            return
        other = function(*told)
        self.assertEqual(snap(other), due)
        # A result that is an argument, or has one, shares its object with it, but no list that can be reached.
        self.assertFalse(ids(lists_in(result)) & ids(hidden_lists(other)))
        self.assertEqual(len(ids(lists_in(result))), len(lists_in(result)))
        for found in lists_in(result):
            found.clear()
        self.assertEqual(snap(objects), before)
        self.assertEqual(snap(other), due)
        self.assertEqual(snap(function(*told)), due)
        for found in own:
            found.clear()
        self.assertEqual(snap(other), due)

    def test_objects_do_not_change(self):
        # What was made of an object stays when the object's own lists are asked for and changed.
        for made, ask in ((EXAMPLE, "planes"), (MOVE, "rows"), (ONE, "terms"), (TRIANGLE, "steps")):
            before = snap(made)
            getattr(made, ask)().clear()
            self.assertEqual(snap(made), before)

    def test_sums_keep_their_list(self):
        planes = deepcopy(THROUGH)
        one = Sum(planes, 1, [((0,), (1, 1))])
        self.assertEqual(one.base, THROUGH)
        one.base.planes().clear()
        self.assertEqual((one.base, planes), (THROUGH, THROUGH))

    def test_papers_stay(self):
        papers = row_papers(EXAMPLE)
        kept = deepcopy(papers)
        self.assertIs(tells_all(2, EXAMPLE.planes(), papers), True)
        self.assertEqual(papers, kept)


if __name__ == "__main__":
    unittest.main()

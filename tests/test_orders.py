"""[0a]: of several errors that fit, the one that is told first in the interface."""

import unittest
from copy import deepcopy

from planeworth.alike import flags
from planeworth.errors import (BadNumber, Malformed, NoAnswer, NotFlat, NotGraph, NotMatrix, NotNumber, NotPlanes, NotPoint,
                               NotPoly, NotRow, NotSigns, NotStrokes, NotSum, TooLarge)
from planeworth.graphs import Graph
from planeworth.mirrors import mirror
from planeworth.moves import Move
from planeworth.products import read_sum, zero_sum
from planeworth.rooms import rooms
from planeworth.texts import read_planes
from tests.helpers import EXAMPLE, Refusals, origin_planes, pairs, random_planes
from tests.test_whole import function_of

THROUGH = read_planes("2 1,0,0 0,1,0 1,1,0")
LINE = read_planes("1 1,0 1,1 1,2")
LARGE = random_planes(60, 4, 12, 1000)
MANY = read_planes("2 1,0,0 0,1,0 1,-1,0 1,2,1 2,1,5 3,1,7 1,5,9 1,7,23 1,9,40 1,11,71 1,13,97")
WIDE = read_planes("2 997,1000,0 999,-1000,0 1,0,0")
STEEP = read_planes("2 997,1000,999 999,-1000,1 1,0,0")
BAD = (2, 4)
WIDTH, ROWS = {0: 65}, {1: [((2, 4), (1, 1))] * 2}
SQUARE = [pairs(1, 0), pairs(0, 1)]
FLAT = [pairs(1, 2), pairs(2, 4)]
LONG = (10 ** 400, 1)
X, Y = ((1, 0), 1), ((0, 1), 1)
EULER = ((X,), (Y,))
NO_POLY = (((1, 0), 0),)
HIGH = (((0, 12), 1),)
CHANCES = [("++-", (1, 2)), ("-++", (1, 2))]
HELD = [("0+-", (1, 1))]
TRIANGLE = Graph(2, [(0, 1, 0), (0, 2, 0), (1, 2, 0)])
STEPS = Graph(2, [(0, 1, 1), (0, 2, 0), (1, 2, 0)])
ONE = read_sum(THROUGH, "2 1 0,1")
SEVEN = zero_sum(THROUGH, 7)
FREE_3, FREE_4 = origin_planes(2, 3, 8, 9), origin_planes(3, 4, 6, 9)
EIGHT = origin_planes(1, 2, 8, 9)
NO_ORIGIN = read_planes("2 1,0,0 0,1,1 1,1,0")
WHITE = [(BadNumber, {0: 5}), (NotPlanes, {1: [(2, 0, 0)]})]
STROKES = [(1, 0), (0, 1), (1, 1)]
BODY = [(BadNumber, {0: 5}), (NotStrokes, {1: [(0, 0)]})]
LETTERS = (BadNumber, {0: 5})
OF_CHANCES = [(NotRow, {1: [("++", BAD)]}), (NoAnswer, {1: [("--+", BAD)]}), (NotNumber, {1: [("++-", BAD)]}), (BadNumber, {1: []}),
              (BadNumber, {1: [("++-", (1, 101)), ("-++", (100, 101))]}),
              (TooLarge, {0: MANY, 1: [(rooms(MANY)[0], (1, 1))]})]
OF_ROOMS = [(NotRow, {1: "++"}), (NotRow, {2: "x+-"}), (NoAnswer, {1: "--+"}), (NoAnswer, {2: "--+"})]
OF_FACE = [(NotRow, {1: "++"}), (NoAnswer, {1: "--+"})]
OF_TOLLS = [(BadNumber, {1: ()}), (NotNumber, {1: ((1, 1), (1, 1), BAD)}), (BadNumber, {1: pairs(1, 1, 101)}),
            (TooLarge, {0: MANY, 1: ((1, 2),) * 11})]
OF_SIGNS = [(BadNumber, {0: 8}), (BadNumber, {1: 5}), (NotSigns, {2: "++x"})]
OF_SUMS = WHITE + [(BadNumber, {2: 13}), (NotSum, {3: [((0, 9), BAD)]}), (NotNumber, {3: [((0, 1), BAD)]}), (NotSum, {4: [((0, 9), BAD)]}),
                   (NotNumber, {4: [((0, 1), BAD)]})]

# For each function arguments that are right, and in the order of the interface an error and arguments at which it is told.
ORDERS = {
    "numbers.over": (((1, 2), (1, 3)), [(NotNumber, {0: BAD}), (BadNumber, {1: (0, 1)})]),
    "numbers.number_text": (((1, 2),), [(NotNumber, {0: (2 * 10 ** 400, 2)}), (TooLarge, {0: LONG})]),
    "linear.check_matrix": ((2, SQUARE), [(BadNumber, WIDTH), (NotMatrix, ROWS)]),
    "linear.echelon": ((2, SQUARE), [(BadNumber, WIDTH), (NotMatrix, ROWS)]),
    "linear.rank": ((2, SQUARE), [(BadNumber, WIDTH), (NotMatrix, ROWS)]),
    "linear.kernel": ((2, SQUARE), [(BadNumber, WIDTH), (NotMatrix, ROWS)]),
    "linear.solution": ((2, FLAT, pairs(3, 6)), [(BadNumber, WIDTH), (NotMatrix, ROWS), (NotMatrix, {2: ()}), (NoAnswer, {2: pairs(3, 7)})]),
    "linear.clash": ((2, FLAT, pairs(3, 7)), [(BadNumber, WIDTH), (NotMatrix, ROWS), (NotMatrix, {2: ()}), (NoAnswer, {2: pairs(3, 6)})]),
    "linear.determinant": ((2, SQUARE), [(BadNumber, WIDTH), (NotMatrix, ROWS)]),
    "linear.inverse": ((2, SQUARE), [(BadNumber, WIDTH), (NotMatrix, ROWS), (NoAnswer, {1: FLAT})]),
    "linear.matrix_product": ((2, SQUARE, 2, SQUARE), [(BadNumber, WIDTH), (NotMatrix, ROWS), (BadNumber, {2: -1}),
                                                       (NotMatrix, {3: [pairs(1)] * 2}), (NotMatrix, {3: SQUARE[:1]})]),
    "planes.is_plane": ((2, (1, 0, 0)), [LETTERS]),
    "planes.check_point": ((2, pairs(1, 2)), [LETTERS, (NotPoint, {1: (BAD,)})]),
    "planes.Planes.__init__": ((2, [(1, 0, 0)]), [LETTERS, (NotPlanes, {1: [(2, 0, 0)]})]),
    "planes.side": ((EXAMPLE, 0, pairs(1, 2)), [(BadNumber, {1: 3}), (NotPoint, {2: pairs(1)})]),
    "planes.meet": ((EXAMPLE, (0, 1)), [(BadNumber, {1: (0, 1, 2, 3)}), (NoAnswer, {1: (0, 1, 2)})]),
    "planes.no_meet": ((EXAMPLE, (0, 1, 2)), [(BadNumber, {1: (1, 0)}), (NoAnswer, {1: (0, 1)})]),
    "moves.on_stretch": ((2, pairs(1, 2), pairs(3, 4), (1, 2)), [LETTERS, (NotPoint, {1: (BAD,)}), (NotPoint, {2: ()}), (NotNumber, {3: BAD}),
                                                                 (BadNumber, {3: (3, 2)})]),
    "moves.Move.__init__": ((2, SQUARE, pairs(0, 0)), [LETTERS, (NotMatrix, {1: FLAT}), (NotPoint, {2: (BAD,)})]),
    "moves.Move.planes": ((mirror(EXAMPLE, 2), EXAMPLE), [(BadNumber, {1: LINE}),
                                                          (TooLarge, {0: Move(2, SQUARE, pairs(2000, 0))})]),
    "moves.joined": ((LINE, EXAMPLE), [(BadNumber, {0: LARGE}), (TooLarge, {0: MANY})]),
    "moves.coned": ((EXAMPLE,), [(BadNumber, {0: LARGE}), (TooLarge, {0: random_planes(3, 2, 12, 9)})]),
    "texts.plane_word": ((2, (1, 0, 0)), [LETTERS, (NotPlanes, {1: (2, 0, 0)})]),
    "texts.read_plane": ((2, "1,0,0"), [LETTERS, (Malformed, {1: "x"})]),
    "texts.text_of_point": ((2, pairs(1, 2)), [LETTERS, (NotPoint, {1: (LONG,)}), (TooLarge, {1: (LONG, LONG)})]),
    "texts.read_point": ((2, "1,2"), [LETTERS, (Malformed, {1: "1"})]),
    "sides.shows": ((EXAMPLE, "++-", pairs(1, 2)), [(NotRow, {1: ""}), (NotPoint, {2: ()})]),
    "sides.refuses": ((EXAMPLE, "--+", pairs(-1, -1, 1)), [(NotRow, {1: ""}), (BadNumber, {2: (BAD,)}), (NotNumber, {2: (BAD,) * 3})]),
    "sides.point_of": ((EXAMPLE, "++-"), [(NotRow, {1: "--"}), (NoAnswer, {1: "--+"})]),
    "sides.refusal": ((EXAMPLE, "--+"), [(NotRow, {1: "++"}), (NoAnswer, {1: "++-"})]),
    "sides.refused_part": ((EXAMPLE, "--+"), [(NotRow, {1: "++"}), (NoAnswer, {1: "++-"})]),
    "rooms.distance": ((EXAMPLE, "++-", "+++"), OF_ROOMS), "rooms.first_way": ((EXAMPLE, "++-", "+++"), OF_ROOMS),
    "rooms.count_ways": ((EXAMPLE, "++-", "+++"), OF_ROOMS), "rooms.belongs": ((EXAMPLE, "00-", "++-"), OF_ROOMS),
    "rooms.walls": ((EXAMPLE, "++-"), OF_FACE), "rooms.neighbours": ((EXAMPLE, "++-"), OF_FACE), "rooms.faces_of": ((EXAMPLE, "++-"), OF_FACE),
    "rooms.rooms_at": ((EXAMPLE, "00-"), OF_FACE), "rooms.face_dimension": ((EXAMPLE, "00-"), OF_FACE),
    "rooms.is_bounded": ((EXAMPLE, "00-"), OF_FACE), "rooms.decide_bounded": ((EXAMPLE, "00-"), OF_FACE),
    "rooms.is_hold": ((EXAMPLE, "++-", pairs(1, 1, -1)), OF_FACE + [(BadNumber, {2: (BAD,)}), (NotNumber, {2: (BAD,) * 3})]),
    "rooms.is_direction": ((EXAMPLE, "+++", pairs(1, 1)), OF_FACE + [(NotPoint, {2: ()})]),
    "rooms.faces_of_dimension": ((EXAMPLE, 1), [(BadNumber, {1: 5}), (TooLarge, {0: LARGE})]),
    "flats.flat_of": ((EXAMPLE, (0,)), [(BadNumber, {1: (0, 1, 2, 3)}), (NoAnswer, {1: (0, 1, 2)})]),
    "flats.weight": ((EXAMPLE, (0, 1), (0,)), [(NotFlat, {1: (0, 1, 2)}), (NotFlat, {2: (7,)}), (NoAnswer, {2: (2,)})]),
    "counting.shrunk": ((EXAMPLE, 0), [(BadNumber, {1: 3}), (NoAnswer, {0: LINE}), (TooLarge, {0: STEEP})]),
    "counting.shrunk_from": ((EXAMPLE, 0), [(BadNumber, {1: 3}), (NoAnswer, {0: LINE}), (TooLarge, {0: STEEP})]),
    "counting.section": ((THROUGH, 0), [(BadNumber, {1: 3}), (NoAnswer, {0: EXAMPLE}), (TooLarge, {0: WIDE})]),
    "counting.points_over": ((EXAMPLE, 5), [(BadNumber, {1: 4}), (TooLarge, {0: LARGE, 1: 11})]),
    "circuits.is_empty": ((EXAMPLE, (0, 1)), [(BadNumber, {1: (2, 1, 3)}), (NotSum, {1: (1, 0)})]),
    "circuits.is_tied": ((EXAMPLE, (0, 1)), [(BadNumber, {1: (2, 1, 3)}), (NotSum, {1: (1, 0)})]),
    "circuits.is_allowed": ((EXAMPLE, (0, 1)), [(BadNumber, {1: (2, 1, 3)}), (NotSum, {1: (1, 0)})]),
    "products.Sum.__init__": ((THROUGH, 2, []), [(BadNumber, {1: 13}), (NotSum, {2: [((0, 9), BAD), ((0, 1), BAD)]}),
                                                 (NotNumber, {2: [((0, 1), BAD), ((0, 9), BAD)]})]),
    "products.Sum.__mul__": ((ONE, ONE), [(BadNumber, {1: zero_sum(EXAMPLE, 12)}), (TooLarge, {0: SEVEN, 1: SEVEN})]),
    "products.relation_sum": ((THROUGH, ("tied", (0, 1, 2), ())), [
        (NotSum, {1: ("no", (9,), (9,))}), (NotSum, {1: ("tied", (9,), (9,))}), (NotSum, {1: ("tied", (0, 1), (9,))}),
        (NotSum, {1: ("tied", (0, 1, 2), (9,))})]),
    "alike.flags": ((THROUGH, 2), [(BadNumber, {1: 13}), (TooLarge, {0: LARGE, 1: 4})]),
    "alike.paper_sum": ((THROUGH, 2, []), [(BadNumber, {1: 13}), (NotNumber, {2: [(BAD, ("no", (), ())), ((1, 1), ("no", (), ()))]}),
                                           (NotSum, {2: [((1, 1), ("no", (), ())), (BAD, ("no", (), ()))]}),
                                           (BadNumber, {2: [((1, 1), ("tied", (0, 1, 2), (0,))), (BAD, ("no", (), ()))]})]),
    "alike.is_answer": ((ONE, ONE, ("alike", [])), [(BadNumber, {1: SEVEN}), (NotNumber, {2: ("alike", [(BAD, ("no", (), ()))])})]),
    "alike.flag_value": ((ONE, flags(THROUGH, 2)[0]), [(NotFlat, {1: []})]),
    "alike.lowered": ((ONE,), [(BadNumber, {0: zero_sum(EXAMPLE, 0)}), (NoAnswer, {0: zero_sum(EXAMPLE, 1)})]),
    "alike.form_at": ((ONE, pairs(1, 1)), [(BadNumber, {0: SEVEN}), (NotPoint, {1: ()}), (NoAnswer, {1: pairs(0, 1)})]),
    "polys.is_poly": ((2, (X,)), [LETTERS]),
    "polys.check_poly": ((2, (X,)), [LETTERS, (NotPoly, {1: NO_POLY})]),
    "polys.poly_sum": ((2, (X,), (Y,)), [LETTERS, (NotPoly, {1: NO_POLY}), (NotPoly, {2: NO_POLY})]),
    "polys.poly_product": ((2, (X,), (Y,)), [LETTERS, (NotPoly, {1: NO_POLY}), (NotPoly, {2: NO_POLY}), (TooLarge, {1: HIGH})]),
    "polys.poly_times": ((2, (X,), 3), [LETTERS, (NotPoly, {1: NO_POLY})]),
    "polys.slope": ((2, (X,), 0), [LETTERS, (NotPoly, {1: NO_POLY}), (BadNumber, {2: 2})]),
    "polys.poly_value": ((2, (X,), pairs(1, 2)), [LETTERS, (NotPoly, {1: NO_POLY}), (NotPoint, {2: ()})]),
    "polys.plane_form": ((2, (1, 0, 0)), [LETTERS, (NotPlanes, {1: (1, 0, 1)})]),
    "polys.quotient": ((2, (X,), (1, 0, 0)), [LETTERS, (NotPoly, {1: NO_POLY}), (NotPlanes, {2: (1, 0, 1)}), (NoAnswer, {1: (Y,)})]),
    "polys.poly_determinant": ((2, [EULER, EULER]), [LETTERS, (NotPoly, {1: [(HIGH, HIGH), (HIGH,)]}), (TooLarge, {1: [(HIGH, HIGH)] * 2})]),
    "derivations.is_derivation": ((2, EULER), [LETTERS]),
    "derivations.check_derivation": ((2, EULER), [LETTERS, (NotPoly, {1: (NO_POLY, ())})]),
    "derivations.applied": ((2, EULER, (X,)), [LETTERS, (NotPoly, {1: (HIGH, NO_POLY)}), (NotPoly, {2: NO_POLY}),
                                               (TooLarge, {1: (HIGH, HIGH), 2: HIGH})]),
    "derivations.bracket": ((2, EULER, EULER), [LETTERS, (NotPoly, {1: (HIGH, (X,))}), (NotPoly, {2: (NO_POLY, ())}),
                                                (TooLarge, {1: (HIGH, HIGH), 2: (HIGH, HIGH)})]),
    "derivations.lawful": ((THROUGH, EULER), [(NotPlanes, {0: NO_ORIGIN}), (NotPoly, {1: (NO_POLY, ())})]),
    "derivations.lawful_basis": ((THROUGH, 2), [(NotPlanes, {0: EXAMPLE}), (BadNumber, {1: 12}), (TooLarge, {0: FREE_4, 1: 11})]),
    "derivations.degree_table": ((THROUGH,), [(NotPlanes, {0: LARGE}), (TooLarge, {0: FREE_3})]),
    "derivations.degrees": ((THROUGH,), [(NotPlanes, {0: LARGE}), (TooLarge, {0: FREE_4})]),
    "derivations.freedom": ((THROUGH,), [(NotPlanes, {0: LARGE}), (TooLarge, {0: FREE_4})]),
    "derivations.is_modular": ((THROUGH, (0,)), [(NotPlanes, {0: NO_ORIGIN}), (NotFlat, {1: (9,)})]),
    "bodies.is_strokes": ((2, STROKES), BODY[:1]), "bodies.check_strokes": ((2, STROKES), BODY), "bodies.planes_of": ((2, STROKES), BODY),
    "bodies.corners": ((2, STROKES), BODY), "bodies.stroke_count": ((2, STROKES), BODY), "bodies.volume": ((2, STROKES), BODY),
    "bodies.corner": ((2, STROKES, (1, 2)), BODY + [(NotPoint, {2: (0,)}), (NoAnswer, {2: (1, 0)})]),
    "bodies.greatest": ((2, STROKES, (1, 2)), BODY + [(NotPoint, {2: (0,)})]),
    "bodies.placed": ((2, STROKES, pairs(1, 2)), BODY + [(NotPoint, {2: (BAD,)})]),
    "bodies.whole_number": ((2, STROKES, 2), BODY + [(BadNumber, {2: 1001})]),
    "bodies.whole_inner_number": ((2, STROKES, 2), BODY + [(BadNumber, {2: 0}), (NoAnswer, {1: [(1, 0)]})]),
    "bodies.whole_points": ((2, STROKES), BODY + [(TooLarge, {1: [(100, 100)]})]),
    "bodies.pieces": ((2, STROKES), BODY + [(NoAnswer, {1: [(1, 0)]})]),
    "bodies.graph_strokes": ((2, [(0, 1)]), [LETTERS, (NotGraph, {1: [(1, 0)]})]),
    "signrows.row_closure": ((1, ["+"]), [(BadNumber, {0: 8}), (NotSigns, {1: ["-", "+"]})]),
    "signrows.apart_from": ((1, ["+"]), [(BadNumber, {0: 8}), (NotSigns, {1: ["-", "+"]})]),
    "signrows.rows_of_rooms": ((1, ["+"]), [(BadNumber, {0: 8}), (NotSigns, {1: ["-", "+"]})]),
    "signrows.sign_circuits": ((THROUGH,), [(NotPlanes, {0: LARGE}), (BadNumber, {0: EIGHT})]),
    "determinants.sign_of": ((3, 2, "++-", (1, 0)), OF_SIGNS + [(BadNumber, {3: (0, 3)})]),
    "determinants.exchange_fault": ((3, 2, "++-"), OF_SIGNS), "determinants.least_of": ((3, 2, "++-"), OF_SIGNS),
    "determinants.signs_of": ((THROUGH,), [(NotPlanes, {0: LARGE}), (BadNumber, {0: read_planes("2")}), (NoAnswer, {0: read_planes("2 1,0,0")})]),
    "distances.toll_table": ((EXAMPLE, pairs(1, 2, 3)), OF_TOLLS), "distances.toll_determinant": ((EXAMPLE, pairs(1, 2, 3)), OF_TOLLS),
    "distances.toll_rank": ((EXAMPLE, pairs(1, 2, 3)), OF_TOLLS),
    "distances.lost_numbers": ((EXAMPLE, pairs(1, 2, 3)), OF_TOLLS + [(NoAnswer, {1: pairs(2, 2, 3)})]),
    "distances.is_lost_numbers": ((EXAMPLE, pairs(1, 2, 3), pairs(*range(7))), OF_TOLLS + [(BadNumber, {2: (BAD,)}), (NotNumber, {2: (BAD,) * 7})]),
    "walks.check_chances": ((EXAMPLE, CHANCES), OF_CHANCES), "walks.step_table": ((EXAMPLE, CHANCES), OF_CHANCES),
    "walks.steps_table": ((EXAMPLE, CHANCES, 2), OF_CHANCES + [(BadNumber, {2: 11})]),
    "walks.share": ((EXAMPLE, CHANCES, (0,)), OF_CHANCES + [(NotFlat, {2: (77,)})]), "walks.shares": ((EXAMPLE, CHANCES), OF_CHANCES),
    "walks.diagonal_sum": ((EXAMPLE, CHANCES, 2), OF_CHANCES + [(BadNumber, {2: -1})]),
    "walks.after": ((EXAMPLE, CHANCES, "++-", 2), OF_CHANCES + [(NotRow, {2: "x"}), (NoAnswer, {2: "--+"}), (BadNumber, {3: 11})]),
    "walks.reaches": ((EXAMPLE, CHANCES), OF_CHANCES), "walks.rest": ((EXAMPLE, CHANCES), OF_CHANCES + [(NoAnswer, {1: HELD})]),
    "walks.is_rest": ((EXAMPLE, CHANCES, pairs(*range(7))), OF_CHANCES + [(BadNumber, {2: (BAD,)}), (NotNumber, {2: (BAD,) * 7})]),
    "walks.drawn": ((EXAMPLE, CHANCES), OF_CHANCES + [(NoAnswer, {1: HELD}), (TooLarge, {1: [(row, (1, 8)) for row in (
        "+++", "++-", "+-+", "+--", "-++", "-+-", "0++", "+0+")]})]),
    "walks.away": ((EXAMPLE, CHANCES, "++-", 2), OF_CHANCES + [(NotRow, {2: "x"}), (NoAnswer, {2: "--+"}), (BadNumber, {3: 11}), (NoAnswer, {1: HELD})]),
    "walks.away_bound": ((EXAMPLE, CHANCES, 2), OF_CHANCES + [(BadNumber, {2: 11}), (NoAnswer, {1: HELD})]),
    "graphs.Graph.__init__": ((2, []), [LETTERS, (NotGraph, {1: [(1, 0, 0)]})]),
    "graphs.rest_points": ((TRIANGLE, 3), [(BadNumber, {1: 0}), (TooLarge, {1: 55})]),
    "graphs.colourings": ((TRIANGLE, 3), [(NotGraph, {0: STEPS}), (BadNumber, {1: -1})]),
    "graphs.agreeing": ((TRIANGLE, 3), [(NotGraph, {0: STEPS}), (BadNumber, {1: -1})]),
    "graphs.heights": ((TRIANGLE, "+++"), [(NotGraph, {0: STEPS}), (NotRow, {1: "++0"}), (NoAnswer, {1: "+-+"})]),
    "graphs.round_in": ((TRIANGLE, "+-+"), [(NotGraph, {0: STEPS}), (NotRow, {1: "++0"}), (NoAnswer, {1: "+++"})]),
    "graphs.sources": ((TRIANGLE, "+++"), [(NotGraph, {0: STEPS}), (NotRow, {1: "++0"})]),
    "mirrors.rooms_by_distance": ((EXAMPLE, "+++"), OF_FACE),
    "families.family": (("axes", 2), [(BadNumber, {0: "no"}), (BadNumber, {1: 5})]),
    "families.label": ((1, "++"), [(BadNumber, {0: 4}), (NotRow, {1: "+"})]),
    "families.room_with": ((1, (0, 0)), [(BadNumber, {0: 4}), (NoAnswer, {1: (1, 1)})]),
    "certificates.shows_row": ((2, EXAMPLE.planes(), "+", ()), WHITE), "certificates.refuses_row": ((2, EXAMPLE.planes(), "+", ()), WHITE),
    "certificates.tells_all": ((2, EXAMPLE.planes(), []), WHITE),
    "certificates.faces_told": ((2, [], [("", ("shown", pairs(1, 2)))]), WHITE + [(NoAnswer, {2: []})]),
    "certificates.shows_in": ((2, STROKES, (), ()), BODY), "certificates.shows_out": ((2, STROKES, (), ()), BODY),
    "certificates.comparisons_cancel": ((4, 2, "++++++", []), [(BadNumber, {0: 10}), (BadNumber, {1: 5}), (NotSigns, {2: "x"})]),
    "shown.shows_free": ((2, THROUGH.planes(), ()), WHITE + [(NotPlanes, {1: [(1, 0, 1)]}), (TooLarge, {0: 3, 1: FREE_3.planes()})]),
    "shown.shows_bound": ((2, THROUGH.planes(), ()), WHITE + [(NotPlanes, {1: [(1, 0, 1)]}), (TooLarge, {0: 3, 1: FREE_3.planes()})]),
    "shown.shows_alike": ((2, THROUGH.planes(), 2, [], [], []), OF_SUMS), "shown.shows_parted": ((2, THROUGH.planes(), 2, [], [], []), OF_SUMS),
}


class TestOrders(unittest.TestCase, Refusals):

    def test_right_arguments(self):
        for name, (told, _) in ORDERS.items():
            with self.subTest(name):
                function_of(name)(*deepcopy(told))

    def test_each_error_alone(self):
        for name, (told, errors) in ORDERS.items():
            for error, wrong in errors:
                with self.subTest(name, error=error.__name__, wrong=wrong):
                    self.told(error, function_of(name), *self.spoilt(told, wrong))

    def test_each_two_errors(self):
        pairs_tried = 0
        for name, (told, errors) in ORDERS.items():
            for k, (error, wrong) in enumerate(errors):
                for _, other in errors[k + 1:]:
                    # Both can be wrong at once only if they are so at different arguments.
                    if not set(wrong) & set(other):
                        pairs_tried += 1
                        with self.subTest(name, error=error.__name__, wrong=wrong, other=other):
                            self.told(error, function_of(name), *self.spoilt(self.spoilt(told, other), wrong))
        self.assertGreater(pairs_tried, 200)

    def spoilt(self, told, wrong):
        return tuple(wrong.get(at, x) for at, x in enumerate(told))

    def test_all_wrong_at_once(self):
        # The first error, whatever is wrong at the arguments behind it.
        for name, (told, errors) in ORDERS.items():
            args = told
            for _, wrong in reversed(errors):
                args = self.spoilt(args, wrong)
            with self.subTest(name):
                self.told(errors[0][0], function_of(name), *args)


if __name__ == "__main__":
    unittest.main()

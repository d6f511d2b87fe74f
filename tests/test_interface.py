"""The names and the arguments of the interface, and where they are defined."""

import importlib
import inspect
import unittest

INTERFACE = {
    "numbers": """is_number(x) check_number(x) number(a,b=1) plus(x,y) minus(x,y) times(x,y) over(x,y) sign(x)
        is_less(x,y) number_text(x) read_number(text) cleared(row)""",
    "linear": """check_matrix(width,rows) echelon(width,rows) rank(width,rows) kernel(width,rows)
        solution(width,rows,wanted) clash(width,rows,wanted) determinant(width,rows) inverse(width,rows)
        matrix_product(width,rows,other_width,others)""",
    "planes": """is_plane(n,plane) check_letters(n) check_point(n,point) side(planes,at,point) row_of(planes,point)
        is_row(planes,row) check_row(planes,row) opposite(planes,row) parting(planes,one,other) meet(planes,indexes)
        no_meet(planes,indexes)""",
    "moves": """on_stretch(n,one,other,t) crossings(planes,one,other) joined(one,other) coned(planes)""",
    "texts": """plane_word(n,plane) text_of_planes(planes) read_plane(n,word) read_planes(text) text_of_point(n,point)
        read_point(n,text)""",
    "sides": """shows(planes,row,point) refuses(planes,row,combination) is_shown(planes,row) decide_row(planes,row)
        point_of(planes,row) refusal(planes,row) ties(planes) refusing_ties(planes,row) refused_part(planes,row)""",
    "rooms": """rooms(planes) faces(planes) faces_of_dimension(planes,dimension) is_room(planes,row)
        face_dimension(planes,face) product_of_rows(planes,one,other) distance(planes,one,other) walls(planes,room)
        neighbours(planes,room) first_way(planes,one,other) count_ways(planes,one,other) belongs(planes,face,room)
        faces_of(planes,room) rooms_at(planes,face) is_bounded(planes,face) decide_bounded(planes,face)
        is_hold(planes,face,combination) is_direction(planes,face,point)""",
    "flats": """meets(planes,indexes) rank_of(planes,indexes) flat_of(planes,indexes) web(planes) is_flat(planes,flat)
        flat_dimension(planes,flat) span_of(planes,one,other) meet_of(planes,one,other)
        weight(planes,flat,start=())""",
    "counting": """polynomial(planes) value_at(poly,t) rooms_number(planes) bounded_number(planes) faces_numbers(planes)
        shrunk(planes,index) shrunk_from(planes,index) section(planes,index) is_good(planes,q)
        points_over(planes,q)""",
    "circuits": """is_empty(planes,product) is_tied(planes,product) is_allowed(planes,product) circuits(planes)
        broken(planes) allowed(planes,size)""",
    "products": """read_sum(planes,text) zero_sum(planes,size) relation_sum(planes,relation)""",
    "alike": """plain(one) are_alike(one,other) flags(planes,size) flag_value(one,flag) paper_sum(planes,size,paper)
        decide(one,other) is_answer(one,other,answer) lowered(one) form_at(one,point)""",
    "polys": """is_poly(n,one) check_poly(n,one) poly_sum(n,one,two) poly_product(n,one,two) poly_times(n,one,factor)
        slope(n,one,index) poly_value(n,one,point) plane_form(n,plane) quotient(n,one,plane)
        poly_determinant(n,rows)""",
    "derivations": """is_derivation(n,one) check_derivation(n,one) applied(n,one,poly) bracket(n,one,two)
        lawful(planes,one) lawful_basis(planes,degree) degree_table(planes) degrees(planes) freedom(planes)
        is_modular(planes,flat) split_chain(planes)""",
    "bodies": """is_strokes(n,strokes) check_strokes(n,strokes) planes_of(n,strokes) corners(n,strokes)
        corner(n,strokes,direction) greatest(n,strokes,direction) placed(n,strokes,point) stroke_count(n,strokes)
        volume(n,strokes) whole_number(n,strokes,t) whole_inner_number(n,strokes,t) whole_points(n,strokes)
        pieces(n,strokes) graph_strokes(n,edges)""",
    "signrows": """is_sign_list(rows) check_sign_list(rows) put_behind(one,two) opposites(one,two) stand_apart(one,two)
        row_fault(rows) least_rows(rows) row_closure(k,rows) apart_from(k,rows) rows_of_rooms(k,rooms)
        sign_circuits(planes)""",
    "determinants": """sign_of(k,r,signs,indexes) exchange_fault(k,r,signs) least_of(k,r,signs) signs_of(planes)""",
    "distances": """toll_table(planes,tolls) toll_determinant(planes,tolls) toll_rank(planes,tolls)
        flat_inner(planes,flat) flat_exponent(planes,flat) comes_apart(planes,flat) flat_exponents(planes)
        lost_numbers(planes,tolls) is_lost_numbers(planes,tolls,numbers)""",
    "walks": """check_chances(planes,chances) step_table(planes,chances) steps_table(planes,chances,k)
        share(planes,chances,flat) shares(planes,chances) diagonal_sum(planes,chances,k) after(planes,chances,room,k)
        reaches(planes,chances) rest(planes,chances) is_rest(planes,chances,numbers) drawn(planes,chances)
        away(planes,chances,room,k) away_bound(planes,chances,k)""",
    "graphs": """rest_points(graph,q) colour_row(graph) colourings(graph,q) agreeing(graph,q) orientations(graph)
        heights(graph,row) round_in(graph,row) sources(graph,row) trees_number(graph) forests_number(graph)""",
    "mirrors": """mirror(planes,at) is_closed(planes) group(planes) exponents(planes) rooms_by_distance(planes,row)""",
    "families": """family(word,m) label(m,row) room_with(m,labels)""",
    "certificates": """shows_row(n,rows,row,point) refuses_row(n,rows,row,combination) tells_all(n,rows,papers)
        faces_told(n,rows,papers) shows_in(n,strokes,point,shares) shows_out(n,strokes,point,direction)
        comparisons_cancel(k,r,signs,comparisons)""",
    "shown": """shows_free(n,rows,derivations) shows_bound(n,rows,table)
        shows_alike(n,rows,size,terms,others,paper) shows_parted(n,rows,size,terms,others,flag)""",
    "papers": """row_papers(planes) swapped_signs()""",
    "lines": """words_of(line) is_name(word) number_in(word) integers_in(word)""",
    "journal": """attempt(journal,lines,*,keep=False) resume(text)""",
}
CLASSES = {
    ("planes", "Planes"): """__init__(self,n,rows) planes(self) __len__(self) __eq__(self,other) rank(self)
        is_central(self) without(self,at) turned(self,at) only(self,indexes)""",
    ("moves", "Move"): """__init__(self,n,rows,shift) rows(self) shift(self) __eq__(self,other) point(self,point)
        planes(self,planes) undone(self) behind(self,first)""",
    ("products", "Sum"): """__init__(self,planes,size,terms) terms(self) at(self,product) __len__(self)
        __add__(self,other) __sub__(self,other) __mul__(self,other) scaled(self,x) __eq__(self,other)
        text(self)""",
    ("graphs", "Graph"): """__init__(self,m,steps) steps(self) __len__(self) __eq__(self,other) is_plain(self)
        planes(self)""",
    ("desk", "Desk"): """__init__(self) answer(self,line) answers(self,lines) names(self) thing(self,name)""",
    ("journal", "Journal"): """__init__(self) answer(self,line) record(self) lines(self) keep(self) __enter__(self)
        __exit__(self,kind,value,trace)""",
}


def written(function):
    """The name and the arguments of a function, without spaces."""
    return (function.__name__ + str(inspect.signature(function))).replace(" ", "")


class TestInterface(unittest.TestCase):

    def test_functions(self):
        for name, lines in INTERFACE.items():
            module = importlib.import_module(f"planeworth.{name}")
            for line in lines.split():
                function = getattr(module, line.split("(")[0])
                self.assertEqual(written(function), line)
                self.assertEqual(function.__module__, module.__name__)

    def test_classes(self):
        for (name, title), lines in CLASSES.items():
            module = importlib.import_module(f"planeworth.{name}")
            kind = getattr(module, title)
            self.assertEqual(kind.__module__, module.__name__)
            for line in lines.split():
                self.assertEqual(written(vars(kind)[line.split("(")[0]]), line)


if __name__ == "__main__":
    unittest.main()

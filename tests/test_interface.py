"""The names and the parameters of the interface, each in its own file."""

import importlib
import inspect
import unittest

from huesandrounds.benches import Bench
from huesandrounds.values import Body, Hues
from tests.support import F, X

INTERFACE = {
    "bodies": "is_body(value) edges(body) corners(body) counts_of(body) belts(body)",
    "cutting": "spots(body) seams(body) cut(body,spot) healed(body,seam) way_down(body) is_way_down(body,value)",
    "forms": "renumbered(body,start,after,turning) plain(body) mirrored(body) alike(one,other) own_turns(body) "
             "is_own_mirror(body) bodies(faces)",
    "edgehues": "is_edge_hues(body,value) count_edge_hues(body) edge_hues(body) chain(body,hues,edge,hue) "
                "exchanged(body,hues,edge,hue) hue_edges(body,hues,hue) hue_rings(body,hues,hue) "
                "is_perfect(body,hues) kinds(body) kind_size(body,hues) families(body) steps(body,hues,aim)",
    "facehues": "is_face_hues(body,value) first_face_hues(body) all_face_hues(body) lots(body) "
                "count_face_hues(body,many) to_edges(body,face_hues) to_faces(body,hues,hue) three_hues(body)",
    "patches": "patches(body,face_hues,one_hue,other_hue) repainted(body,face_hues,face,hue) paint_families(body)",
    "polynomials": "polynomial(body) value_at(body,number) golden_at(body,pair) count_ringless(body) "
                   "count_from(body,face) is_ringless(body,value)",
    "allowed": "is_allowed(body,value) hues_with(body,allowed) count_with(body,allowed) denial(body,allowed) "
               "is_denial(body,allowed,value)",
    "flows": "is_flow(body,many,value) flow_of(body,many,value) hues_by_flow(body,many,flow,hue) "
             "count_flows(body,many)",
    "signs": "is_signs(body,value) count_signs(body) signs_of(body,hues) hues_of(body,signs,hue) all_signs(body) "
             "face_sums(body,signs) corners_on(body,hues,edge,hue)",
    "lines": "is_pairing(body,value) pairings(body) count_lines(body,pairing,drawing) line_sums(body,pairing) "
             "signed_sum(body,pairing,number)",
    "arrows": "are_arrows(body,value) are_right(body,value) right_arrows(body) count_right(body) along(body,arrows) "
              "turned_at(body,arrows,corner) between(body,arrows,others) pairing_sign(body,arrows,pairing) "
              "arrow_sum(body,arrows,weights) pairing_sum(body,weights)",
    "pairings": "count_pairings(body) edge_share(body,edge) pairing_at(body,index) pairing_index(body,pairing) "
                "pairings_at(body,corner) rings_left(body,pairing) hues_borne(body,pairing) pairings_of(body,hues)",
    "turning": "turnable(body,pairing) face_turned(body,pairing,face) pairing_lots(body) lot_of(body,pairing) "
               "turns_between(body,pairing,aim)",
    "rounds": "is_round(body,value) rounds(body) count_rounds(body) count_through(body,edge) "
              "other_round(body,tour,edge) lands(body,tour) round_by(body,faces) land_sums(body,faces) "
              "hues_by(body,tour)",
    "walks": "corner_walk(body,tour,corner,edge) left_edges(body,tour) carried(body,tour,corner) "
             "carried_back(body,tour,face)",
    "wording": "is_word(value) word(body,tour,corner,edge) body_of(text) count_words(body) words(body)",
    "roads": "is_road(body,value) ends(body,road) closed(body,road) turns(body,road,corner) "
             "count_roads(body,corner,last) roads(body,corner) road_walk(body,tour,edge,corner) "
             "walked(body,tour,edge,corner) partners(body,edge,corner)",
    "prices": "cost(body,tour,prices) cheapest(body,prices) dearest(body,prices) is_paper(body,prices,number,value) "
              "paper(body,prices)",
    "landfacts": "beside(body,tour) hue_rounds(body,hues) rounds_by_lands(body,facts) "
                 "surely_same(body,facts,face,last)",
    "trees": "is_edge_tree(body,value) is_face_tree(body,value) rest(body,some) count_trees(body,on) "
             "trees_with(body,inside,outside) share(body,edge) tree_at(body,index) index_of(body,tree) "
             "tree_sum(body,weights)",
    "exchanging": "exchanges(body,tree) exchanged(body,tree,exchange) ring_of(body,tree,edge) "
                  "way_between(body,one,other) least_tree(body,prices) better(body,tree,prices)",
    "nets": "rim(body,tree) net(body,tree,face) tree_of(body,value) like_nets(body,one,other) count_nets(body)",
    "chips": "is_load(body,on,value) sent(body,on,load,place) invariants(body,on) alike_loads(body,on,one,other) "
             "low(body,on,load) order_of(body,on,load) settled(body,on,pile) is_lasting(body,on,pile) "
             "lasting(body,on,load) neutral(body,on)",
    "carrying": "moved(body,moves) carried(body,load) carried_back(body,load)",
    "wires": "sizes(body,gap) flows(body,gap) levels(body,gap) places(body,gap) measure(body,gap) "
             "least_flows(body,gap) are_flows(body,gap,value)",
    "shares": "drop(body,corner,last)",
    "thick": "thick_sizes(body,gap,thick) thick_flows(body,gap,thick) thick_levels(body,gap,thick) "
             "tiled(body,gap,thick)",
    "squares": "still(body,gap) rectangle(body,gap) perfect_gaps(body) is_filled(value) is_perfect(filled) "
               "crosses(filled) turned(filled)",
    "filling": "level_lines(filled) upright_lines(filled) told_back(filled)",
    "evenlots": "is_even(body,value) rim(body,faces) faces_of(body,lot) rings_of(body,lot) even_lots(body) "
                "even_at(body,index) even_index(body,lot) even_sizes(body) count_covers(body)",
    "tears": "is_tear(body,value) tear(body,corners) corners_of(body,lot) tear_sizes(body) split(body,lot) "
             "count_bicycles(body) bicycles(body) zigzags(body) edge_kind(body,edge)",
    "weighing": "corner_sum(body,bonds) face_sum(body,bonds) turned_bonds(body,bonds)",
    "streams": "least_rim(body,prices,face,last) stream(body,prices,face,last) is_stream(body,prices,face,last,value) "
               "greatest_tear(body,prices) same_price(body,prices)",
    "putting": "put_together(one,corner,other,last) parted(body,belt) left_out(body,corner) "
               "joined_counts(one,corner,other,last) joined_face_hues(one,other,many) parts(body)",
    "drums": "drum(sides) drum_rounds(sides) drum_edge_hues(sides,modulus) drum_face_hues(sides,many,modulus) "
             "drum_pairings(sides,modulus) drum_trees(sides,modulus)",
    "telling": "hues_told(body,facts) surely(body,facts,edge) fewest_told(body,hues) rounds_told(body,ins,outs) "
               "pairings_told(body,ins,outs) bodies_told(faces,facts) told_apart(one,other)",
    "texts": "body_text(body) hues_text(body,hues) face_text(body,face_hues) signs_text(body,signs) "
             "edges_text(body,some) read_body(text) read_hues(body,text) read_faces(body,text) read_signs(body,text) "
             "read_edges(body,text) script_text(script) read_script(text)",
    "stands": "is_stand(value) is_step(value) is_script(value) done(stand,step) course(stand,script) back(stand,step)",
}
# The classes, with the methods that are defined in them, and their properties.
CLASSES = {
    "values.Body": ("__init__ read like __xor__ __ixor__ __sub__ __invert__ __add__ __or__ __call__ __getitem__ "
                    "__contains__ __len__ __bool__ __str__ __iter__ __eq__", "source"),
    "values.Hues": ("__init__ read kin __xor__ __ixor__ __add__ __sub__ __invert__ __call__ __getitem__ __contains__ "
                    "__len__ __bool__ __str__ __iter__ __eq__", "body source"),
    "benches.Bench": ("__init__ do __iadd__ undo redo attempt __getitem__ __contains__ __len__ __bool__ __iter__ "
                      "__eq__ lines", "stand body hues tour tree signs faces lands pairing log"),
}


class Interface(unittest.TestCase):
    def test_all_classes(self):
        for name, (methods, properties) in CLASSES.items():
            module, word = name.split(".")
            place = importlib.import_module(f"huesandrounds.{module}")
            told = getattr(place, word)
            self.assertEqual((told.__module__, told.__bases__), (place.__name__, (object,)))
            for method in methods.split():
                self.assertIn(method, vars(told), name)
            for item in properties.split():
                self.assertIsInstance(vars(told)[item], property, name)

    def test_parameters_of_methods(self):
        for call, words in ((Body.read, "text"), (Hues.read, "body text"), (Bench.do, "self step"),
                            (Bench.attempt, "self action"), (Bench.undo, "self"), (Bench.redo, "self"),
                            (Bench.lines, "self"), (Body.like, "self other"), (Hues.kin, "self other"),
                            (Bench.__init__, "self stand"), (Body.__init__, "self rings"),
                            (Hues.__init__, "self body hues")):
            self.assertEqual(list(inspect.signature(call).parameters), words.split())

    def test_class_values(self):
        self.assertEqual((Body.MOST, Bench.MOST, Body(*F).MOST, Bench(X).MOST), (12, 60, 12, 60))
        self.assertTrue(inspect.isgeneratorfunction(Bench.lines))

    def test_all_functions(self):
        for module, told in INTERFACE.items():
            place = importlib.import_module(f"huesandrounds.{module}")
            for item in told.split():
                name, words = item.rstrip(")").split("(")
                function = getattr(place, name)
                self.assertEqual(function.__module__, place.__name__, item)
                self.assertEqual(list(inspect.signature(function).parameters), words.split(","), item)

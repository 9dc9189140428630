"""The names and the parameters of the interface, each in its own file."""

import importlib
import inspect
import unittest

INTERFACE = {
    "bodies": "is_body(value) edges(body) corners(body) counts_of(body) belts(body)",
    "cutting": "spots(body) seams(body) cut(body,spot) healed(body,seam) way_down(body) is_way_down(body,value)",
    "forms": "renumbered(body,start,after,turning) plain(body) mirrored(body) alike(one,other) own_turns(body) "
             "is_own_mirror(body) bodies(faces)",
    "edgehues": "is_edge_hues(body,value) count_edge_hues(body) edge_hues(body) chain(body,hues,edge,hue) "
                "exchanged(body,hues,edge,hue) hue_edges(body,hues,hue) hue_rings(body,hues,hue) "
                "is_perfect(body,hues) kinds(body) kind_size(body,hues) families(body) steps(body,hues,aim)",
    "facehues": "is_face_hues(body,value) first_face_hues(body) all_face_hues(body) lots(body) "
                "count_face_hues(body,many) to_edges(body,face_hues) to_faces(body,hues,hue) three_hues(body)",
    "patches": "patches(body,face_hues,one_hue,other_hue) repainted(body,face_hues,face,hue) paint_families(body)",
}


class Interface(unittest.TestCase):
    def test_all_functions(self):
        for module, told in INTERFACE.items():
            place = importlib.import_module(f"huesandrounds.{module}")
            for item in told.split():
                name, words = item.rstrip(")").split("(")
                function = getattr(place, name)
                self.assertEqual(function.__module__, place.__name__, item)
                self.assertEqual(list(inspect.signature(function).parameters), words.split(","), item)

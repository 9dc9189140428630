"""Patches of face hues, and repainting them."""

from huesandrounds.bodies import check_body
from huesandrounds.checking import check_face, check_hue, check_other_hue, check_size
from huesandrounds.edgehues import swapped
from huesandrounds.facehues import check_face_hues, face_hue_list
from huesandrounds.structure import count_tied, lumps, reach

MOST_FOR_FAMILIES = 7
HUE_PAIRS = ((0, 1), (0, 2), (0, 3), (1, 2), (1, 3), (2, 3))


def patches(body, face_hues, one_hue, other_hue):
    """The ascending list of all patches of two hues."""
    check_body(body)
    check_face_hues(body, face_hues)
    check_hue(one_hue, 3)
    check_other_hue(other_hue, one_hue, 3)
    return lumps(body, [hue in (one_hue, other_hue) for hue in face_hues])


def repainted(body, face_hues, face, hue):
    """The face hues behind repainting the patch of a face's hue and another one that has the face."""
    check_body(body)
    check_face_hues(body, face_hues)
    check_face(body, face)
    own = face_hues[face]
    check_other_hue(hue, own, 3)
    patch = reach(body, [item in (own, hue) for item in face_hues], face)
    return swapped(face_hues, patch, own, hue)


def paint_families(body):
    """How many paint families there are."""
    check_body(body)
    check_size(body, MOST_FOR_FAMILIES)
    return count_tied({face_hues: repaintings(body, face_hues) for face_hues in face_hue_list(body)})


def repaintings(body, face_hues):
    """A list of all face hues to which repainting one patch leads."""
    found = []
    for one, other in HUE_PAIRS:
        for patch in lumps(body, [hue in (one, other) for hue in face_hues]):
            found.append(swapped(face_hues, patch, one, other))
    return found

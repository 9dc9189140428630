"""Bodies, hues, signs, edges and scripts written as texts, and read."""

from huesandrounds.bodies import check_body, is_body
from huesandrounds.checking import check_edges, is_edge_row
from huesandrounds.edgehues import are_hues, check_hues
from huesandrounds.errors import InvalidText
from huesandrounds.facehues import are_face_hues, check_face_hues
from huesandrounds.signs import are_signs, check_signs
from huesandrounds.stands import KINDS, check_script, is_script

FIGURES = "0123456789"
SIGNS = {"+": 1, "-": -1}
# What stands for a number that is none; nothing that is written has it.
NO_NUMBER = -2


def body_text(body):
    """The text of a body."""
    check_body(body)
    return written_body(body)


def written_body(body):
    """The text of what is taken to be a body."""
    return " / ".join([_joined(ring, " ") for ring in body])


def _joined(numbers, mark):
    """Numbers with a mark between two."""
    return mark.join([str(number) for number in numbers])


def hues_text(body, hues):
    """The text of edge hues."""
    check_body(body)
    check_hues(body, hues)
    return written_hues(hues)


def written_hues(hues):
    """The figures of hues, one behind another."""
    return _joined(hues, "")


def face_text(body, face_hues):
    """The text of face hues."""
    check_body(body)
    check_face_hues(body, face_hues)
    return written_hues(face_hues)


def signs_text(body, signs):
    """The text of signs."""
    check_body(body)
    check_signs(body, signs)
    return "".join(["+" if sign == 1 else "-" for sign in signs])


def edges_text(body, some):
    """The text of an ascending tuple of edges."""
    check_body(body)
    check_edges(body, some)
    return _written_edges(some)


def _written_edges(some):
    """The text of edges."""
    return " ".join([_joined(edge, "-") for edge in some])


def _number(text):
    """The number that a text of a figure, or of two, tells."""
    if not 1 <= len(text) <= 2 or not all([figure in FIGURES for figure in text]):
        return NO_NUMBER
    return int(text)


def _numbers(text, mark):
    """The tuple of the numbers that a text tells, a mark between two."""
    return tuple([_number(part) for part in text.split(mark)])


def _figures(text):
    """The tuple of the numbers that a text tells, each as one figure."""
    return tuple([_number(figure) for figure in text])


def read_body(text):
    """The body that is written as a text."""
    body = tuple([_numbers(part, " ") for part in text.split(" / ")]) if isinstance(text, str) else ()
    # A number may be written otherwise in a text than a body has it.
    if not is_body(body) or written_body(body) != text:
        raise InvalidText("no text of a body")
    return body


def read_hues(body, text):
    """The edge hues that are written as a text."""
    check_body(body)
    hues = _figures(text) if isinstance(text, str) else ()
    if not are_hues(body, hues):
        raise InvalidText("no text of edge hues")
    return hues


def read_faces(body, text):
    """The face hues that are written as a text."""
    check_body(body)
    face_hues = _figures(text) if isinstance(text, str) else ()
    if not are_face_hues(body, face_hues, 4):
        raise InvalidText("no text of face hues")
    return face_hues


def read_signs(body, text):
    """The signs that are written as a text."""
    check_body(body)
    signs = tuple([SIGNS.get(sign, 0) for sign in text]) if isinstance(text, str) else ()
    if not are_signs(body, signs):
        raise InvalidText("no text of signs")
    return signs


def read_edges(body, text):
    """The ascending tuple of edges that is written as a text."""
    check_body(body)
    if not isinstance(text, str):
        raise InvalidText("no text")
    some = tuple([_numbers(part, "-") for part in text.split(" ")]) if text != "" else ()
    if not is_edge_row(body, some) or _written_edges(some) != text:
        raise InvalidText("no text of edges")
    return some


def script_text(script):
    """The text of a script."""
    check_script(script)
    return _written_script(script)


def _written_script(script):
    """The text of what is taken to be a script."""
    return "\n".join([_written_step(step) for step in script])


def _written_step(step):
    """The text of a step."""
    return " ".join([step[0]] + [_written_item(kind, item) for kind, item in zip(KINDS[step[0]], step[1:])])


def _written_item(kind, item):
    """The text of what is of a kind that stands in steps."""
    if kind in ("face", "hue"):
        return str(item)
    return _joined(item, "" if kind == "order" else "-")


def read_script(text):
    """The script that is written as a text."""
    if not isinstance(text, str):
        raise InvalidText("no text")
    script = tuple([_read_step(line) for line in text.split("\n")]) if text != "" else ()
    if not is_script(script) or _written_script(script) != text:
        raise InvalidText("no text of a script")
    return script


def _read_step(line):
    """The step that is written on a line, or what is no step."""
    words = line.split(" ")
    # Words too many are left out, and so missed in what is written again.
    return (words[0],) + tuple([_read_item(kind, item) for kind, item in zip(KINDS.get(words[0], ()), words[1:])])


def _read_item(kind, text):
    """What a text tells of a kind that stands in steps."""
    if kind in ("face", "hue"):
        return _number(text)
    return _figures(text) if kind == "order" else _numbers(text, "-")

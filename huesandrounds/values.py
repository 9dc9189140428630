"""Bodies and edge hues as values, with operators."""

from huesandrounds.bodies import check_body
from huesandrounds.checking import check_edge, check_face, check_size, is_edge_row
from huesandrounds.cutting import cut, cut_at, healed, healed_at
from huesandrounds.edgehues import MOST_FOR_KINDS, chain_list, check_hues, paths_from, rings_outside
from huesandrounds.errors import InvalidStep, Unlike
from huesandrounds.facehues import count_face_hues, three_hues
from huesandrounds.forms import plain_form
from huesandrounds.ordering import mirror_of
from huesandrounds.putting import joined, joined_hues, joined_rounds
from huesandrounds.rounds import is_tour, round_list
from huesandrounds.stands import check_cut, check_healing, hues_cut, hues_healed, hues_led, is_step
from huesandrounds.structure import corner_list, edge_places, pair
from huesandrounds.texts import read_body, read_hues, written_body, written_hues


class Body:
    """A body as a value.

    `^` cuts it at a spot, `-` heals it at a seam, `~` mirrors it, `+` puts two together, at the least corner of each,
    and `|` tells how many edge hues and rounds they would have so. Called with a number it tells how many face hues by
    so many hues there are. Its items are the rings of the faces, its members are its rounds, it is as long as these
    are many, and it is true if its faces can have hues by three hues.
    """

    MOST = 12

    def __init__(self, *rings):
        check_body(rings)
        self._rings = rings

    @classmethod
    def read(cls, text):
        """The body that is written as a text."""
        rings = read_body(text)
        return cls(*rings)

    @property
    def source(self):
        """The body as a tuple."""
        return self._rings

    def like(self, other):
        """Whether both bodies are alike."""
        _check_body_value(other)
        return plain_form(self._rings) == plain_form(other.source)

    def __xor__(self, other):
        rings = cut(self._rings, other)
        return Body(*rings)

    def __ixor__(self, other):
        self._rings = cut(self._rings, other)
        return self

    def __sub__(self, other):
        rings = healed(self._rings, other)
        return Body(*rings)

    def __invert__(self):
        rings = mirror_of(self._rings)
        return Body(*rings)

    def __add__(self, other):
        _check_body_value(other)
        one, last = self._rings, other.source
        rings = joined(one, corner_list(one)[0], last, corner_list(last)[0])
        return Body(*rings)

    def __or__(self, other):
        _check_body_value(other)
        one, last = self._rings, other.source
        many = joined_rounds(one, corner_list(one)[0], last, corner_list(last)[0])
        return (joined_hues(one, last), many)

    def __call__(self, many):
        return count_face_hues(self._rings, many)

    def __getitem__(self, at):
        check_face(self._rings, at)
        return self._rings[at]

    def __contains__(self, x):
        return is_tour(self._rings, x)

    def __len__(self):
        return len(round_list(self._rings))

    def __bool__(self):
        return three_hues(self._rings) is not None

    def __str__(self):
        return str(written_body(self._rings))

    def __iter__(self):
        raise TypeError("a body is not iterated over")

    def __eq__(self, other):
        return isinstance(other, Body) and self._rings == other._rings


def _check_body_value(value):
    """Raises Unlike for any value that is no Body."""
    if not isinstance(value, Body):
        raise Unlike("no Body")


class Hues:
    """Edge hues of a body as a value.

    `^` leads them on by an exchange or a renaming, `+` cuts a corner off, `-` heals a face, `~` mirrors the body.
    Called with a face they tell the figures of the hues around it. Their items are the hues of the edges, their
    members are all chains, they are as long as these are many, and true if some two hues are one chain.
    """

    def __init__(self, body, *hues):
        check_body(body)
        check_hues(body, hues)
        self._rings = body
        self._row = hues

    @classmethod
    def read(cls, body, text):
        """The edge hues of a body that are written as a text."""
        hues = read_hues(body, text)
        return cls(body, *hues)

    @property
    def body(self):
        """The body as a tuple."""
        return self._rings

    @property
    def source(self):
        """The edge hues as a tuple."""
        return self._row

    def kin(self, other):
        """Whether exchanges, one after another, lead from the one to the other edge hues."""
        if not isinstance(other, Hues) or other.body != self._rings:
            raise Unlike("no Hues of the same body")
        check_size(self._rings, MOST_FOR_KINDS)
        return other.source in paths_from(self._rings, self._row)

    def __xor__(self, other):
        hues = _led_on(self._rings, self._row, other)
        return Hues(self._rings, *hues)

    def __ixor__(self, other):
        self._row = _led_on(self._rings, self._row, other)
        return self

    def __add__(self, other):
        check_cut(self._rings, other)
        hues = hues_cut(self._rings, self._row, other)
        return Hues(cut_at(self._rings, (other, -1)), *hues)

    def __sub__(self, other):
        check_healing(self._rings, other)
        hues = hues_healed(self._rings, self._row, other)
        return Hues(healed_at(self._rings, (other, -1)), *hues)

    def __invert__(self):
        hues = self._row
        return Hues(mirror_of(self._rings), *hues)

    def __call__(self, face):
        check_face(self._rings, face)
        places = edge_places(self._rings)
        return written_hues([self._row[places[pair(face, other)]] for other in self._rings[face]])

    def __getitem__(self, at):
        check_edge(self._rings, at)
        return self._row[edge_places(self._rings)[at]]

    def __contains__(self, x):
        return is_edge_row(self._rings, x) and x in chain_list(self._rings, self._row)

    def __len__(self):
        return len(chain_list(self._rings, self._row))

    def __bool__(self):
        rings = [rings_outside(self._rings, [item == hue for item in self._row]) for hue in range(3)]
        return any([len(row) == 1 for row in rings])

    def __str__(self):
        return str(written_hues(self._row))

    def __iter__(self):
        raise TypeError("edge hues are not iterated over")

    def __eq__(self, other):
        return isinstance(other, Hues) and self._rings == other._rings and self._row == other._row


def _led_on(body, hues, step):
    """The edge hues behind any value that is an exchange or a renaming."""
    if not is_step(step) or step[0] not in ("exchange", "rename"):
        raise InvalidStep("neither an exchange nor a renaming")
    return hues_led(body, hues, step)

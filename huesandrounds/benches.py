"""Benches, on which a stand is led by steps and scripts, with all taken back and done anew."""

from huesandrounds.checking import check_edge, is_edge
from huesandrounds.edgehues import edges_with
from huesandrounds.errors import NothingToRedo, NothingToUndo, TooMany
from huesandrounds.facehues import faces_from
from huesandrounds.rounds import lands_by
from huesandrounds.signs import signs_by
from huesandrounds.stands import behind_step, check_script, check_stand, check_step, stands_along
from huesandrounds.structure import edge_places, pair, rest_of


class Bench:
    """A bench with a stand, and with all calls that can be taken back or done again.

    `+=` does all steps of a script as one call. Its items are triples of what is told of an edge, its members are the
    edges that are in the round and in the tree, it is as long as there are calls that can be taken back, and it is
    true if just the edges that are not in the round have one hue.
    """

    MOST = 60

    def __init__(self, stand):
        check_stand(stand)
        self._stand = stand
        # Pairs of a stand and of the steps of a call: the stands ahead of the calls that were done, the last call at
        # the end; and those behind the calls that were taken back, the next one to be done again at the end.
        self._ahead = ()
        self._behind = ()

    def do(self, step):
        """Does a step, and returns whether the stand is another one then."""
        check_step(step)
        return self._led((step,), behind_step(self._stand, step))

    def __iadd__(self, other):
        check_script(other)
        self._led(other, stands_along(self._stand, other)[-1])
        return self

    def _led(self, script, stand):
        """Takes the stand behind a call with some steps, and returns whether it is another one."""
        if len(self._ahead) == Bench.MOST:
            raise TooMany(Bench.MOST)
        before = self._stand
        self._ahead = self._ahead + ((before, script),)
        self._behind = ()
        self._stand = stand
        return stand != before

    def undo(self):
        """Takes back the last call that was done."""
        if not self._ahead:
            raise NothingToUndo("no call to be taken back")
        stand, script = self._ahead[-1]
        self._behind = self._behind + ((self._stand, script),)
        self._ahead = self._ahead[:-1]
        self._stand = stand

    def redo(self):
        """Does the last call again that was taken back."""
        if not self._behind:
            raise NothingToRedo("no call to be done again")
        stand, script = self._behind[-1]
        self._ahead = self._ahead + ((self._stand, script),)
        self._behind = self._behind[:-1]
        self._stand = stand

    def attempt(self, action):
        """Calls a function with the bench, and returns what it returns; an error leaves all as it was."""
        stand, ahead, behind = self._stand, self._ahead, self._behind
        failed = True
        try:
            told = action(self)
            failed = None
        finally:
            if failed is not None:
                self._stand, self._ahead, self._behind = stand, ahead, behind
        return told

    @property
    def stand(self):
        """The stand."""
        return self._stand

    @property
    def body(self):
        """The body of the stand."""
        return self._stand[0]

    @property
    def hues(self):
        """The edge hues of the stand."""
        return self._stand[1]

    @property
    def tour(self):
        """The round of the stand."""
        return self._stand[2]

    @property
    def tree(self):
        """The tree of edges of the stand."""
        return self._stand[3]

    @property
    def signs(self):
        """The signs of the edge hues."""
        return signs_by(self._stand[0], self._stand[1])

    @property
    def faces(self):
        """The face hues that have the edge hues, and the hue 0 for the face 0."""
        return faces_from(self._stand[0], self._stand[1], 0)

    @property
    def lands(self):
        """The pair of both lands of the round."""
        return lands_by(self._stand[0], self._stand[2])

    @property
    def pairing(self):
        """The ascending tuple of the edges that are not in the round."""
        return rest_of(self._stand[0], self._stand[2])

    @property
    def log(self):
        """The tuple of all steps of the calls that can be taken back, in order."""
        return tuple([step for _, script in self._ahead for step in script])

    def __getitem__(self, at):
        body, hues, tour, tree = self._stand
        check_edge(body, at)
        return (hues[edge_places(body)[at]], at in tour, at in tree)

    def __contains__(self, x):
        body, _, tour, tree = self._stand
        return is_edge(body, x) and x in tour and x in tree

    def __len__(self):
        return len(self._ahead)

    def __bool__(self):
        body, hues, tour, _ = self._stand
        left = rest_of(body, tour)
        hue = hues[edge_places(body)[left[0]]]
        return bool(edges_with(body, hues, hue) == left)

    def __iter__(self):
        raise TypeError("a bench is not iterated over")

    def __eq__(self, other):
        return isinstance(other, Bench) and self._stand == other._stand

    def lines(self):
        """Yields a line for each face: its number, and the hues of its edges, those in the round with a star."""
        # What there is as the first line is asked for is shown to the end.
        rows = [_line_of(self._stand, face) for face in range(len(self._stand[0]))]
        for row in rows:
            yield row


def _line_of(stand, face):
    """The line of a face."""
    body, hues, tour, _ = stand
    places = edge_places(body)
    around = [pair(face, other) for other in body[face]]
    shown = [f"{hues[places[edge]]}*" if edge in tour else str(hues[places[edge]]) for edge in around]
    return f"{face}: " + "".join(shown)

"""The errors that the functions of this package raise."""


class RoundError(ValueError):
    """The base class of all errors of this package."""


class InvalidBody(RoundError):
    """A value is not a body."""


class InvalidFace(RoundError):
    """A value is not a face."""


class InvalidFaces(RoundError):
    """A value is not a lot of faces."""


class InvalidEdge(RoundError):
    """A value is not an edge."""


class InvalidEdges(RoundError):
    """A value is not a lot of edges."""


class InvalidCorner(RoundError):
    """A value is not a corner."""


class InvalidCorners(RoundError):
    """A value is not a lot of corners."""


class InvalidSpot(RoundError):
    """A value is not a spot."""


class InvalidSeam(RoundError):
    """A value is not a seam."""


class InvalidTurning(RoundError):
    """A value is not a way of turning."""


class InvalidNumber(RoundError):
    """A value is not a number in its range."""


class InvalidIndex(RoundError):
    """A value is not an index in its range."""


class InvalidHues(RoundError):
    """A value is not edge hues."""


class InvalidHue(RoundError):
    """A value is not a hue that may stand there."""


class InvalidFaceHues(RoundError):
    """A value is not face hues."""


class InvalidAllowed(RoundError):
    """A value is not allowed hues."""


class InvalidFlow(RoundError):
    """A value is not a flow."""


class InvalidSigns(RoundError):
    """A value is not signs."""


class InvalidPairing(RoundError):
    """A value is not a pairing."""


class InvalidDrawing(RoundError):
    """A value is not a drawing."""


class InvalidArrows(RoundError):
    """A value is not arrows."""


class InvalidWeights(RoundError):
    """A value is not weights."""


class InvalidTour(RoundError):
    """A value is not a round."""


class InvalidLand(RoundError):
    """A value is not a land."""


class InvalidWord(RoundError):
    """A value is not a word."""


class InvalidRoad(RoundError):
    """A value is not a road."""


class InvalidPrices(RoundError):
    """A value is not prices."""


class InvalidTree(RoundError):
    """A value is not a tree."""


class InvalidWeb(RoundError):
    """A value is not the name of a web."""


class InvalidLoad(RoundError):
    """A value is not a load."""


class InvalidPile(RoundError):
    """A value is not a pile."""


class InvalidExchange(RoundError):
    """A value is not an exchange."""


class InvalidNet(RoundError):
    """A value is not a net."""


class InvalidMoves(RoundError):
    """A value is not moves."""


class InvalidThick(RoundError):
    """A value is not thicknesses."""


class InvalidFilled(RoundError):
    """A value is not a filled rectangle."""


class InvalidEven(RoundError):
    """A value is not an even lot."""


class InvalidTear(RoundError):
    """A value is not a tear."""


class InvalidBonds(RoundError):
    """A value is not bonds."""


class InvalidBelt(RoundError):
    """A value is not a belt."""


class InvalidSides(RoundError):
    """A value is not sides."""


class InvalidFacts(RoundError):
    """A value is not facts."""


class InvalidStand(RoundError):
    """A value is not a stand."""


class InvalidStep(RoundError):
    """A value is not a step."""


class InvalidScript(RoundError):
    """A value is not a script."""


class InvalidText(RoundError):
    """A value is not such a text."""


class NoTurn(RoundError):
    """A face cannot be turned."""


class NoSeam(RoundError):
    """A face cannot be healed."""


class NoRound(RoundError):
    """Some edges are no round."""


class Tangled(RoundError):
    """A tree does not let a face be healed."""


class Unlike(RoundError):
    """A value does not go with another one."""


class NothingToRedo(RoundError):
    """No call is left to be done again."""


class NothingToUndo(RoundError):
    """No call is left to be taken back."""


class TooMany(RoundError):
    """There is more of something than a function takes."""

    def __init__(self, limit):
        super().__init__(f"more than {limit}")
        self.limit = limit

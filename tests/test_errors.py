"""The error classes."""

import unittest

from huesandrounds import errors

NAMES = """InvalidBody InvalidFace InvalidFaces InvalidEdge InvalidEdges InvalidCorner InvalidCorners InvalidSpot
InvalidSeam InvalidTurning InvalidNumber InvalidIndex InvalidHues InvalidHue InvalidFaceHues InvalidAllowed InvalidFlow
InvalidSigns InvalidPairing InvalidDrawing InvalidArrows InvalidWeights InvalidTour InvalidLand InvalidWord InvalidRoad
InvalidPrices InvalidTree InvalidWeb InvalidLoad InvalidPile InvalidExchange InvalidNet InvalidMoves InvalidThick
InvalidFilled InvalidEven InvalidTear InvalidBonds InvalidBelt InvalidSides InvalidFacts InvalidStand InvalidStep
InvalidScript InvalidText NoTurn NoSeam NoRound Tangled Unlike NothingToRedo NothingToUndo""".split()


class Errors(unittest.TestCase):
    def test_the_base_class(self):
        self.assertEqual(errors.RoundError.__bases__, (ValueError,))

    def test_all_are_direct_subclasses(self):
        for name in NAMES + ["TooMany"]:
            self.assertEqual(getattr(errors, name).__bases__, (errors.RoundError,), name)

    def test_each_takes_a_message(self):
        for name in NAMES:
            self.assertEqual(str(getattr(errors, name)("a message")), "a message")

    def test_too_many_takes_its_limit(self):
        error = errors.TooMany(12)
        self.assertEqual(error.limit, 12)
        self.assertIsInstance(error, errors.RoundError)

    def test_there_are_no_others(self):
        classes = [name for name, worth in vars(errors).items() if isinstance(worth, type)]
        self.assertEqual(sorted(classes), sorted(NAMES + ["TooMany", "RoundError"]))

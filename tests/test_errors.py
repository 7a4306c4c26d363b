"""The classes of errors: their families, and what they keep."""

import unittest

import oneshelf.errors as errors
import oneshelf.failures as failures
from oneshelf.ahead import clock, exchanges
from oneshelf.pictures import Picture
from support import Thing, junk

FAMILIES = {"ShelfError": ValueError, "MissingError": LookupError, "StateError": RuntimeError,
            "LimitError": ArithmeticError}
KEEPS_POSITION = """InvalidRows InvalidLine InvalidPictures InvalidStarts InvalidWatched InvalidAlong InvalidTable
    InvalidValues InvalidEntries InvalidNames InvalidNumbers InvalidRun InvalidNamed InvalidSpots InvalidFallen
    InvalidWritten InvalidChanges""".split()
KEEPS_VALUE = """InvalidHouse InvalidEvent InvalidCut InvalidPlaces InvalidFlags InvalidNumber InvalidPoint InvalidFact
    InvalidGroup InvalidTree InvalidHouses InvalidFraction InvalidChances InvalidValue InvalidMelt InvalidPiece
    InvalidGifts InvalidState InvalidEntry InvalidHand InvalidThings InvalidWrites InvalidCount InvalidWord
    InvalidBallot InvalidUp InvalidAsked InvalidReplies InvalidOwn InvalidRuns InvalidKnown InvalidKept InvalidSpot
    InvalidMany InvalidClaim InvalidCommand InvalidStep InvalidChange""".split()
OTHERS = {"InvalidCalls": "name", "InvalidText": "line"}
MISSING = {"UnknownLetter": "value", "UnknownCall": "value", "UnknownValue": "value"}
STATES = {"NotMelting": None, "NotOfKind": "event", "NotPlain": None, "SameText": "value", "BadRead": "value",
          "OtherWriters": "value", "NotChosen": "value", "InDoubt": None, "SlotsClash": "value",
          "CannotBeDone": "value", "NothingToUndo": None, "NothingToRedo": None, "CommandFailed": "position"}


def table():
    """Tuples of a class, the class right above it, and the name of what it keeps."""
    found = []
    for names, kept in ((KEEPS_POSITION, "position"), (KEEPS_VALUE, "value")):
        found += [(getattr(errors, name), errors.ShelfError, kept) for name in names]
    found += [(getattr(errors, name), errors.ShelfError, kept) for name, kept in OTHERS.items()]
    found += [(getattr(failures, name), errors.MissingError, kept) for name, kept in MISSING.items()]
    return found + [(getattr(failures, name), errors.StateError, kept) for name, kept in STATES.items()]


class TestErrors(unittest.TestCase):
    def test_families(self):
        for name, base in FAMILIES.items():
            family = getattr(errors, name)
            self.assertEqual(family.__bases__, (base,))
            self.assertEqual(family.__module__, "oneshelf.errors")
            self.assertIsInstance(family(), base)

    def test_all_are_there(self):
        self.assertEqual(len(table()), 57 + 3 + 13)
        self.assertEqual(len(set(kind for kind, _, _ in table())), 73)

    def test_bases_and_files(self):
        for kind, family, _ in table():
            self.assertEqual(kind.__bases__, (family,), kind)
            place = "oneshelf.errors" if family is errors.ShelfError else "oneshelf.failures"
            self.assertEqual(kind.__module__, place)

    def test_what_is_kept(self):
        for kind, family, kept in table():
            if kept is None:
                self.assertIsInstance(kind(), family)
                continue
            for value in junk() + [Thing(), 3, "text", ([1], {2: 3})]:
                for error in (kind(value), kind(**{kept: value})):
                    self.assertIsInstance(error, family)
                    self.assertIs(type(getattr(error, kept)), type(value))
                    self.assertIs(getattr(error, kept), value)
            self.assertRaises(TypeError, kind)

    def test_too_many(self):
        self.assertEqual(errors.TooMany.__bases__, (errors.LimitError,))
        for error in (errors.TooMany("houses", 6), errors.TooMany(what="houses", limit=6)):
            self.assertEqual((error.what, error.limit), ("houses", 6))
            self.assertIsInstance(error, ArithmeticError)
        odd = errors.TooMany(None, [Thing])
        self.assertEqual((odd.what, odd.limit), (None, [Thing]))

    def test_they_can_be_raised_and_caught_by_family(self):
        picture = Picture([[("do", "a")]])
        for call, family, base in ((lambda: clock(picture, (0, 1)), errors.ShelfError, ValueError),
                                   (lambda: exchanges(picture, [1]), errors.ShelfError, ValueError),
                                   (lambda: picture.said(0), errors.MissingError, LookupError),
                                   (lambda: Picture([[]] * 7), errors.LimitError, ArithmeticError)):
            self.assertRaises(family, call)
            self.assertRaises(base, call)

    def test_they_can_be_shown(self):
        for kind, _, kept in table():
            error = kind() if kept is None else kind(3)
            self.assertIsInstance(str(error), str)
            self.assertIsInstance(repr(error), str)


if __name__ == "__main__":
    unittest.main()

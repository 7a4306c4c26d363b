"""The errors of values that are not valid, and the families of all others."""


class ShelfError(ValueError):
    """A value that is not valid."""


class MissingError(LookupError):
    """Something that is not there."""


class StateError(RuntimeError):
    """Something that cannot be done as things are."""


class LimitError(ArithmeticError):
    """Something beyond a limit."""


class TooMany(LimitError):
    """More of something than the limit lets."""
    def __init__(self, what, limit):
        self.what = what
        self.limit = limit


class InvalidRows(ShelfError):
    """Rows that make no picture."""
    def __init__(self, position):
        self.position = position


class InvalidHouse(ShelfError):
    """No house."""
    def __init__(self, value):
        self.value = value


class InvalidEvent(ShelfError):
    """No event."""
    def __init__(self, value):
        self.value = value


class InvalidLine(ShelfError):
    """No line."""
    def __init__(self, position):
        self.position = position


class InvalidCut(ShelfError):
    """No cut."""
    def __init__(self, value):
        self.value = value


class InvalidPlaces(ShelfError):
    """No places."""
    def __init__(self, value):
        self.value = value


class InvalidFlags(ShelfError):
    """No flags."""
    def __init__(self, value):
        self.value = value


class InvalidPictures(ShelfError):
    """Pictures that make no book."""
    def __init__(self, position):
        self.position = position


class InvalidStarts(ShelfError):
    """No starts of a book."""
    def __init__(self, position):
        self.position = position


class InvalidWatched(ShelfError):
    """No watched cuts of a book."""
    def __init__(self, position):
        self.position = position


class InvalidNumber(ShelfError):
    """No number that will do."""
    def __init__(self, value):
        self.value = value


class InvalidPoint(ShelfError):
    """No point of a book."""
    def __init__(self, value):
        self.value = value


class InvalidFact(ShelfError):
    """No fact of a book."""
    def __init__(self, value):
        self.value = value


class InvalidAlong(ShelfError):
    """No list of houses along which a fact is known."""
    def __init__(self, position):
        self.position = position


class InvalidGroup(ShelfError):
    """No group of houses."""
    def __init__(self, value):
        self.value = value


class InvalidTree(ShelfError):
    """No tree."""
    def __init__(self, value):
        self.value = value


class InvalidHouses(ShelfError):
    """No list of different houses of a tree."""
    def __init__(self, value):
        self.value = value


class InvalidFraction(ShelfError):
    """No fraction."""
    def __init__(self, value):
        self.value = value


class InvalidChances(ShelfError):
    """No chances of a tree."""
    def __init__(self, value):
        self.value = value


class InvalidTable(ShelfError):
    """Rows that make no table."""
    def __init__(self, position):
        self.position = position


class InvalidValue(ShelfError):
    """No value of a table."""
    def __init__(self, value):
        self.value = value


class InvalidMelt(ShelfError):
    """No melt."""
    def __init__(self, value):
        self.value = value


class InvalidValues(ShelfError):
    """No list of values."""
    def __init__(self, position):
        self.position = position


class InvalidPiece(ShelfError):
    """No piece of a table."""
    def __init__(self, value):
        self.value = value


class InvalidGifts(ShelfError):
    """No gifts."""
    def __init__(self, value):
        self.value = value


class InvalidCalls(ShelfError):
    """Calls that make no kind."""
    def __init__(self, name):
        self.name = name


class InvalidState(ShelfError):
    """No state."""
    def __init__(self, value):
        self.value = value


class InvalidEntries(ShelfError):
    """Entries that make no history."""
    def __init__(self, position):
        self.position = position


class InvalidEntry(ShelfError):
    """No entry."""
    def __init__(self, value):
        self.value = value


class InvalidNames(ShelfError):
    """No list of different names."""
    def __init__(self, position):
        self.position = position


class InvalidNumbers(ShelfError):
    """No list of different numbers."""
    def __init__(self, position):
        self.position = position


class InvalidHand(ShelfError):
    """No hand that will do."""
    def __init__(self, value):
        self.value = value


class InvalidThings(ShelfError):
    """No things of a history."""
    def __init__(self, value):
        self.value = value


class InvalidWrites(ShelfError):
    """No sequence of writes for each shelf."""
    def __init__(self, value):
        self.value = value


class InvalidCount(ShelfError):
    """No count that will do."""
    def __init__(self, value):
        self.value = value


class InvalidWord(ShelfError):
    """No word of a rule."""
    def __init__(self, value):
        self.value = value


class InvalidRun(ShelfError):
    """No run."""
    def __init__(self, position):
        self.position = position


class InvalidBallot(ShelfError):
    """No ballot."""
    def __init__(self, value):
        self.value = value


class InvalidUp(ShelfError):
    """No list of houses that are up."""
    def __init__(self, value):
        self.value = value


class InvalidAsked(ShelfError):
    """No meeting that is asked."""
    def __init__(self, value):
        self.value = value


class InvalidReplies(ShelfError):
    """No replies of those that are asked."""
    def __init__(self, value):
        self.value = value


class InvalidOwn(ShelfError):
    """No own value of a ballot."""
    def __init__(self, value):
        self.value = value


class InvalidRuns(ShelfError):
    """No runs of slots."""
    def __init__(self, value):
        self.value = value


class InvalidKnown(ShelfError):
    """No known calls."""
    def __init__(self, value):
        self.value = value


class InvalidNamed(ShelfError):
    """No list of named calls."""
    def __init__(self, position):
        self.position = position


class InvalidKept(ShelfError):
    """No kept states."""
    def __init__(self, value):
        self.value = value


class InvalidSpot(ShelfError):
    """No spot."""
    def __init__(self, value):
        self.value = value


class InvalidSpots(ShelfError):
    """No list of spots."""
    def __init__(self, position):
        self.position = position


class InvalidFallen(ShelfError):
    """No list of fallen houses."""
    def __init__(self, position):
        self.position = position


class InvalidWritten(ShelfError):
    """No list of letters written down."""
    def __init__(self, position):
        self.position = position


class InvalidMany(ShelfError):
    """No number of houses that can fall."""
    def __init__(self, value):
        self.value = value


class InvalidText(ShelfError):
    """No written form."""
    def __init__(self, line):
        self.line = line


class InvalidClaim(ShelfError):
    """No claim."""
    def __init__(self, value):
        self.value = value


class InvalidCommand(ShelfError):
    """No command."""
    def __init__(self, value):
        self.value = value


class InvalidStep(ShelfError):
    """No step."""
    def __init__(self, value):
        self.value = value


class InvalidChanges(ShelfError):
    """Changes that make no log."""
    def __init__(self, position):
        self.position = position


class InvalidChange(ShelfError):
    """No change."""
    def __init__(self, value):
        self.value = value

"""The errors of what is missing, or cannot be done as things are."""

from oneshelf.errors import MissingError, StateError


class UnknownLetter(MissingError):
    """A letter that is not said."""
    def __init__(self, value):
        self.value = value


class UnknownCall(MissingError):
    """A call that the kind does not have."""
    def __init__(self, value):
        self.value = value


class UnknownValue(MissingError):
    """A value that is not written."""
    def __init__(self, value):
        self.value = value


class NotMelting(StateError):
    """The table does not melt."""


class NotOfKind(StateError):
    """A deed of the picture is no call of the kind."""
    def __init__(self, event):
        self.event = event


class NotPlain(StateError):
    """The history is not plain."""


class SameText(StateError):
    """A text is written twice, or is there at first."""
    def __init__(self, value):
        self.value = value


class BadRead(StateError):
    """A read whose value is neither written nor there at first."""
    def __init__(self, value):
        self.value = value


class OtherWriters(StateError):
    """The rule has another word for its writers."""
    def __init__(self, value):
        self.value = value


class NotChosen(StateError):
    """The ballot is not chosen."""
    def __init__(self, value):
        self.value = value


class InDoubt(StateError):
    """There is a doubt."""


class SlotsClash(StateError):
    """Two calls are known at one slot."""
    def __init__(self, value):
        self.value = value


class CannotBeDone(StateError):
    """A step that cannot be done here."""
    def __init__(self, value):
        self.value = value


class NothingToUndo(StateError):
    """No change is left to take back."""


class NothingToRedo(StateError):
    """No change was taken back last."""


class CommandFailed(StateError):
    """A command among several was refused."""
    def __init__(self, position):
        self.position = position

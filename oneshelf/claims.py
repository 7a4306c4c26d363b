"""Claims, their contraries, and papers of those that are true."""

from oneshelf.ballots import Council
from oneshelf.basics import is_fraction
from oneshelf.books import Book
from oneshelf.errors import InvalidClaim, LimitError, MissingError, ShelfError, StateError
from oneshelf.histories import History
from oneshelf.papers import first_paper, is_first_paper, is_second_paper, is_so, second_paper
from oneshelf.pictures import Picture
from oneshelf.rules import Rule
from oneshelf.trees import Tree

WORDS = [
    ("ahead", "not ahead"),
    ("perhaps", "never"),
    ("surely", "not surely"),
    ("known along", "unknown"),
    ("common", "not common"),
    ("meeting", "apart"),
    ("votes", "trade"),
    ("load within", "load above"),
    ("explained", "refused"),
    ("plain explained", "plain refused"),
    ("right", "wrong"),
    ("safe", "two values"),
    ("can choose", "barred"),
    ("together", "barrier"),
    ("undone", "remains"),
    ("alike", "different"),
]
# A part that is told as "any" is judged by the function of the word itself.
PARTS = {
    "ahead": ("picture", "any", "any"),
    "perhaps": ("picture", "any"),
    "surely": ("picture", "any"),
    "known along": ("book", "any", "any", "any"),
    "common": ("book", "any", "any", "any"),
    "meeting": ("tree", "tree"),
    "votes": ("tree",),
    "load within": ("tree", "fraction"),
    "explained": ("history", "any"),
    "plain explained": ("history", "any"),
    "right": ("rule", "any"),
    "safe": ("council",),
    "can choose": ("council", "any"),
    "together": ("picture", "any", "any"),
    "undone": ("picture", "any", "any", "any", "any"),
    "alike": ("rule", "any", "any"),
}


def is_part(value, wanted):
    """Whether any value is of the kind that is wanted of a part."""
    if wanted == "picture":
        return isinstance(value, Picture)
    if wanted == "book":
        return isinstance(value, Book)
    if wanted == "tree":
        return isinstance(value, Tree)
    if wanted == "history":
        return isinstance(value, History)
    if wanted == "rule":
        return isinstance(value, Rule)
    if wanted == "council":
        return isinstance(value, Council)
    return wanted == "any" or is_fraction(value)


def line_of(value):
    """The line of the words to which the first element of a tuple belongs; None if it does to none."""
    if not isinstance(value, tuple) or len(value) == 0 or not isinstance(value[0], str):
        return None
    found = [line for line in WORDS if value[0] in line]
    return found[0] if len(found) > 0 else None


def truth_of(value):
    """Whether any value is a claim that is true; None if it is none."""
    line = line_of(value)
    if line is None:
        return None
    wanted, parts = PARTS[line[0]], value[1:]
    if len(parts) != len(wanted) or not all([is_part(part, word) for part, word in zip(parts, wanted)]):
        return None
    try:
        truth = is_so(line[0], parts)
    except (ShelfError, MissingError, StateError, LimitError):
        return None
    # An event is never ahead of itself, but this is no claim.
    if line[0] == "ahead" and parts[1] == parts[2]:
        return None
    return truth == (value[0] == line[0])


def checked_truth(claim):
    """Whether a claim is true; refuse what is none."""
    truth = truth_of(claim)
    if truth is None:
        raise InvalidClaim(claim)
    return truth


def is_claim(value):
    """Whether any value is a claim."""
    return truth_of(value) is not None


def is_true(claim):
    """Whether the claim is true."""
    return checked_truth(claim)


def copied(value):
    """The value with new lists and dicts, the keys of these sorted."""
    if isinstance(value, list):
        return [copied(part) for part in value]
    if isinstance(value, tuple):
        return tuple([copied(part) for part in value])
    if isinstance(value, dict):
        return {key: copied(value[key]) for key in sorted(list(value))}
    return value


def contrary(claim):
    """The contrary claim."""
    checked_truth(claim)
    one, other = line_of(claim)
    return copied((other if claim[0] == one else one,) + claim[1:])


def paper_of(claim):
    """A paper of the claim; None if it is not true."""
    if not checked_truth(claim):
        return None
    line = line_of(claim)
    if claim[0] == line[0]:
        return first_paper(line[0], claim[1:])
    return second_paper(line[0], claim[1:])


def is_paper(claim, value):
    """Whether any value is a paper of the claim."""
    if not checked_truth(claim):
        return False
    line = line_of(claim)
    if claim[0] == line[0]:
        return is_first_paper(line[0], claim[1:], value)
    return is_second_paper(line[0], claim[1:], value)

"""Readers of written forms: each takes the lines behind the head line, one by one.

The fault of a reader is None if all is there, otherwise the position, behind the head line, of what is wrong or lacks.
"""

from oneshelf.errors import InvalidRows, TooMany
from oneshelf.histories import History, is_entry
from oneshelf.joins import Table, is_row
from oneshelf.kinds import MOST_CALLS, Kind, are_turns
from oneshelf.pictures import MOST_EVENTS, Picture, is_deed_of, sent_letters
from oneshelf.rules import Rule
from oneshelf.shelves import MOST_STEPS
from oneshelf.steps import RULED, name_of, number_below, number_of, step_of, text_of
from oneshelf.trees import HOUSES, MOST_DEPTH, MOST_LEAVES, Tree


class PictureReader:
    """Takes the lines of a picture of so many houses."""

    def __init__(self, houses):
        self._rows = [[] for _ in range(houses)]
        self._told = []
        self._letters = {}

    def take(self, words):
        """Whether a line is right by its place; then it is taken."""
        house = number_below(words[0], len(self._rows))
        last = self._told[-1][0] if len(self._told) > 0 else 0
        if house is None or house < last or len(self._told) == MOST_EVENTS:
            return False
        event = event_of(words[1:])
        if not is_deed_of(event, house, len(self._rows)):
            return False
        if event[0] != "do":
            if (event[0], event[1]) in self._letters:
                return False
            self._letters[(event[0], event[1])] = True
        self._rows[house].append(event)
        self._told.append((house, event))
        return True

    def fault(self):
        """The position of the first line that hears what is not said to its house, or behind all if no line goes."""
        sent = sent_letters(self._rows)
        for position, (house, event) in enumerate(self._told):
            if event[0] == "hear" and (event[1], house) not in sent:
                return position
        try:
            self.thing()
        except InvalidRows:
            return len(self._told)
        return None

    def thing(self):
        """The Picture."""
        return Picture(self._rows)


def event_of(words):
    """An event that has just these words, with None for what no word tells rightly."""
    if len(words) == 2 and words[0] == "do":
        return ("do", text_of(words[1]))
    if len(words) == 2 and words[0] == "hear":
        return ("hear", number_of(words[1]))
    if len(words) == 4 and words[0] == "say":
        return ("say", number_of(words[1]), number_of(words[2]), text_of(words[3]))
    return None


def gate_from(words, at, depth):
    """A tuple of the gate whose words begin here, so many gates within, and the position behind them; None."""
    if depth == MOST_DEPTH or at + 3 > len(words):
        return None
    need, many = number_of(words[at + 1]), number_of(words[at + 2])
    if need is None or many is None or not 1 <= need <= many or many > MOST_LEAVES:
        return None
    parts = []
    at = at + 3
    for _ in range(many):
        told = shape_from(words, at, depth + 1)
        if told is None:
            return None
        parts.append(told[0])
        at = told[1]
    return (("of", need, parts), at)


def shape_from(words, at, depth):
    """A tuple of the shape whose words begin here, so many gates within, and the position behind them; None."""
    if at >= len(words):
        return None
    if words[at] == "of":
        return gate_from(words, at, depth)
    house = number_below(words[at], HOUSES)
    return None if house is None else (house, at + 1)


def tree_of(words, houses):
    """The Tree, of houses below a number, whose shape has just these words; None if it has not."""
    told = shape_from(words, 0, 0)
    if told is None or told[1] < len(words):
        return None
    try:
        tree = Tree(told[0])
    except TooMany:
        return None
    return tree if all([house < houses for house in tree.members()]) else None


class TreeReader:
    """Takes the line of a tree."""

    def __init__(self):
        self._tree = None

    def take(self, words):
        """Whether a line is right by its place; then it is taken."""
        if self._tree is not None:
            return False
        self._tree = tree_of(words, HOUSES)
        return self._tree is not None

    def fault(self):
        """The position of a line that lacks; None."""
        return 0 if self._tree is None else None

    def thing(self):
        """The Tree."""
        return self._tree


class TableReader:
    """Takes the lines of a table of so many values."""

    def __init__(self, size):
        self._size = size
        self._rows = []

    def take(self, words):
        """Whether a line is right by its place; then it is taken."""
        row = [number_of(word) for word in words]
        if len(self._rows) == self._size or not is_row(row, self._size):
            return False
        self._rows.append(row)
        return True

    def fault(self):
        """The position of a line that lacks; None."""
        return len(self._rows) if len(self._rows) < self._size else None

    def thing(self):
        """The Table."""
        return Table(self._rows)


class KindReader:
    """Takes the lines of a kind of so many states."""

    def __init__(self, states):
        self._many = states
        self._turns = {}

    def take(self, words):
        """Whether a line is right by its place; then it is taken."""
        name = name_of(words[0])
        if name is None or len(self._turns) == MOST_CALLS or not all([other < name for other in self._turns]):
            return False
        numbers = [number_of(word) for word in words[1:]]
        turns = list(zip(numbers[::2], numbers[1::2]))
        if len(numbers) != 2 * self._many or not are_turns(turns, self._many):
            return False
        self._turns[name] = turns
        return True

    def fault(self):
        """The position of a line that lacks; None."""
        return 0 if len(self._turns) == 0 else None

    def thing(self):
        """The Kind."""
        return Kind(self._turns)


def entry_of(words):
    """An entry that has just these words, with None for what no word tells rightly."""
    if len(words) == 4 and words[0] == "answer":
        if words[2] == "text":
            return ("answer", number_of(words[1]), text_of(words[3]))
        if words[2] == "count":
            return ("answer", number_of(words[1]), number_of(words[3]))
    if len(words) < 4 or words[0] != "call":
        return None
    call = None
    if words[3] == "read" and len(words) == 4:
        call = ("read",)
    elif words[3] == "write" and len(words) == 5:
        call = ("write", text_of(words[4]))
    elif words[3] == "do" and len(words) == 5:
        call = words[4]
    return ("call", number_of(words[1]), words[2], call)


class HistoryReader:
    """Takes the lines of a history."""

    def __init__(self):
        self._entries = []
        self._waiting = {}

    def take(self, words):
        """Whether a line is right by its place; then it is taken."""
        entry = entry_of(words)
        if not is_entry(entry) or len(self._entries) == History.MOST_ENTRIES:
            return False
        if (entry[0] == "answer") != self._waiting.get(entry[1], False):
            return False
        self._waiting[entry[1]] = entry[0] == "call"
        self._entries.append(entry)
        return True

    def fault(self):
        """None, as a history can end wherever it will."""
        return None

    def thing(self):
        """The History."""
        return History(self._entries)


class RuleReader:
    """Takes the lines of a rule with so many houses and these words."""

    def __init__(self, houses, writers, back):
        self._many = houses
        self._words = (writers, back)
        self._trees = []

    def take(self, words):
        """Whether a line is right by its place; then it is taken."""
        if len(self._trees) == 2 or words[0] != ("reading", "writing")[len(self._trees)]:
            return False
        tree = tree_of(words[1:], self._many)
        if tree is None:
            return False
        self._trees.append(tree)
        return True

    def fault(self):
        """The position of a line that lacks; None."""
        return len(self._trees) if len(self._trees) < 2 else None

    def thing(self):
        """The Rule."""
        return Rule(self._many, self._trees[0], self._trees[1], self._words[0], self._words[1])


class RunReader:
    """Takes the lines of a run."""

    def __init__(self):
        self._steps = []

    def take(self, words):
        """Whether a line is right by its place; then it is taken."""
        step = step_of(words, RULED)
        if step is None or len(self._steps) == MOST_STEPS:
            return False
        self._steps.append(step)
        return True

    def fault(self):
        """None, as a run can end wherever it will."""
        return None

    def thing(self):
        """The list of the steps."""
        return list(self._steps)

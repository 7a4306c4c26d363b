"""Desks: a run that grows by commands, notes of its houses, and what can be asked of both."""

from oneshelf.back import remaining
from oneshelf.basics import is_number_below
from oneshelf.cuts import greatest_cut
from oneshelf.errors import (InvalidCommand, InvalidHouse, InvalidState, InvalidStep, LimitError, MissingError,
                             ShelfError, StateError, TooMany)
from oneshelf.failures import CannotBeDone, CommandFailed, NothingToRedo, NothingToUndo, UnknownValue
from oneshelf.flags import perhaps, surely
from oneshelf.log import MOST_CHANGES, Log
from oneshelf.moves import command_of, hands_without, may_go, tag_flags, traced
from oneshelf.pictures import MOST_HOUSES, Picture
from oneshelf.shelves import MOST_STEPS, calls, played
from oneshelf.steps import is_step, told_words

NO_ONE = "none"


def picture_of(rule, run):
    """The picture of the run."""
    played(rule, run)
    rows = traced(rule, run).rows()
    # The numbers of letters are unlike only as long as there are not too many houses.
    if len(rows) > MOST_HOUSES:
        raise TooMany("houses", MOST_HOUSES)
    return Picture(rows)


def told_list(numbers):
    """The answer that tells a list of COUNTS, or a cut; None if there is no such cut."""
    if numbers is None or len(numbers) == 0:
        return NO_ONE
    return told_words(list(numbers))


def told_holding(held):
    """The answer that tells what a house holds."""
    tag, value = held
    return f"{tag[0]} {tag[1]} {told_words([value])}"


def kept_by(picture, houses, notes):
    """The first and last states, the notes of the first houses, and of the rest the states behind ends of calls."""
    found = {}
    for house, row in enumerate(picture.rows()):
        states = [0, len(row)]
        if house < houses:
            states.append(notes[house])
        else:
            states.extend([place + 1 for place, what in enumerate(row) if what == ("do", "e")])
        found[house] = sorted(list({state: True for state in states}))
    return found


class Desk:
    """A rule, a run that grows, and a note for each house."""

    def __init__(self, rule):
        self._rule = rule
        self._done = ()
        self._taken = ()

    @property
    def rule(self):
        """The rule."""
        return self._rule

    @property
    def changes(self):
        """How many changes are done and not taken back."""
        return len(self._done)

    def run(self):
        """The list of the steps."""
        return [change for change in self._done if change[0] != "note"]

    def log(self):
        """The Log of the changes that are done and not taken back."""
        return Log([told_words(change) for change in self._done])

    def notes(self):
        """The list of the notes of the houses of the rule."""
        found = [0] * self._rule.houses
        for change in self._done:
            if change[0] == "note":
                found[change[1]] = change[2]
        return found

    def picture(self):
        """The picture of the run."""
        return picture_of(self._rule, self.run())

    def do(self, command):
        """Do a command; its answer."""
        told = command_of(command, self._rule.houses)
        if told is None:
            raise InvalidCommand(command)
        if told[0] == "note":
            return self.do_note(told)
        if told[0] in ("undo", "redo"):
            return self.do_back(told[0])
        if is_step(told, self._rule.houses):
            return self.do_step(told)
        return self.answer(told)

    def do_step(self, step):
        """Do a step of the run; its answer."""
        play = played(self._rule, self.run())
        if len(self) == MOST_STEPS:
            raise TooMany("steps", MOST_STEPS)
        if not play.can(step):
            raise CannotBeDone(step)
        self.change_by(step)
        ended = [call for call in calls(self._rule, self.run()) if call[5] == len(self) - 1]
        if step[0] == "at" and len(ended) > 0 and ended[0][1] == "read":
            return told_words([ended[0][2]])
        return "done"

    def do_note(self, note):
        """Do a note of a house; its answer."""
        house, state = note[1], note[2]
        if not is_number_below(state, len(self.picture().rows()[house]) + 1):
            raise InvalidState(state)
        self.change_by(note)
        return "done"

    def do_back(self, word):
        """Take back the last change, or do it again; how many are left."""
        if word == "undo":
            if len(self._done) == 0:
                raise NothingToUndo()
            self._taken = self._taken + self._done[-1:]
            self._done = self._done[:-1]
        else:
            if len(self._taken) == 0:
                raise NothingToRedo()
            self._done = self._done + self._taken[-1:]
            self._taken = self._taken[:-1]
        return str(len(self._done))

    def change_by(self, change):
        """Do a change that can be done, unless there are too many."""
        if len(self._done) == MOST_CHANGES:
            raise TooMany("changes", MOST_CHANGES)
        self._done = self._done + (change,)
        self._taken = ()

    def answer(self, told):
        """The answer of a command that changes nothing."""
        word, run = told[0], self.run()
        if word == "holds":
            return told_holding(played(self._rule, run).held()[told[1]])
        if word == "may":
            return told_list(may_go(self._rule, run, told[1]))
        if word == "without":
            return told_list(hands_without(self._rule, run, told[1]))
        if word in ("perhaps", "surely"):
            return self.answer_tag(word, told[1])
        picture = self.picture()
        notes = self.notes()
        if word == "cut":
            return told_list(greatest_cut(picture, tuple(notes) + picture.sizes()[len(notes):]))
        return told_list(remaining(picture, kept_by(picture, len(notes), notes), told[1]))

    def answer_tag(self, word, text):
        """The answer whether all houses perhaps, or surely, hold a tag that is at least that of a written value."""
        run = self.run()
        tags = [call[3] for call in calls(self._rule, run) if call[1] == "write" and call[2] == text]
        if len(tags) == 0:
            raise UnknownValue(text)
        picture = self.picture()
        if tags[0] is None:
            return NO_ONE if word == "perhaps" else "no"
        flags = tag_flags(traced(self._rule, run), self._rule.houses, tags[0])
        if word == "perhaps":
            return told_list(perhaps(picture, flags))
        return "yes" if surely(picture, flags) else "no"

    def do_all(self, *commands):
        """Do commands, one by one; the list of their answers; if one is refused, none has an effect."""
        done, taken = self._done, self._taken
        answers = []
        for position, command in enumerate(commands):
            try:
                answers.append(self.do(command))
            except (ShelfError, MissingError, StateError, LimitError) as error:
                self._done, self._taken = done, taken
                raise CommandFailed(position) from error
        return answers

    def copy(self):
        """A Desk that goes on by itself."""
        other = Desk(self._rule)
        other._done = self._done
        other._taken = self._taken
        return other

    def __call__(self, command):
        return self.do(command)

    def __iadd__(self, other):
        if not is_step(other, self._rule.houses):
            raise InvalidStep(other)
        self.do_step(other)
        return self

    def __getitem__(self, at):
        if not is_number_below(at, self._rule.houses):
            raise InvalidHouse(at)
        return self.notes()[at]

    def __setitem__(self, at, worth):
        if not is_number_below(at, self._rule.houses):
            raise InvalidHouse(at)
        self.do_note(("note", at, worth))

    def __iter__(self):
        raise TypeError("a desk is not iterated over")

    def __len__(self):
        return len(self.run())

    def __eq__(self, other):
        if not isinstance(other, Desk) or self._rule != other._rule:
            return False
        return self.run() == other.run() and self.notes() == other.notes()


class Trial:
    """A block behind which a desk is as it was ahead of it."""

    def __init__(self, desk):
        self._desk = desk
        self._done = ()
        self._taken = ()

    def __enter__(self):
        self._done = self._desk._done
        self._taken = self._desk._taken
        return self._desk

    def __exit__(self, kind, value, trace):
        desk = self._desk
        desk._done = self._done
        desk._taken = self._taken


def tried(desk, *commands):
    """The answers of the commands, done within a Trial."""
    with Trial(desk) as held:
        return held.do_all(*commands)


def again(rule, log):
    """The Desk behind the changes of a Log."""
    desk = Desk(rule)
    lines = log.lines()
    desk.do_all(*lines)
    return desk

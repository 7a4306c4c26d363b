"""What a desk needs to know of runs: their events, where calls may go, and what its commands tell by their words."""

from oneshelf.log import change_of
from oneshelf.pictures import MOST_HOUSES
from oneshelf.rules import shared
from oneshelf.shelves import HANDS, MOST_STEPS, NOTHING, Play, played
from oneshelf.steps import is_value, number_below


class Trace:
    """The rows of events that come of the steps of a run, and what tags houses are put."""

    def __init__(self, rule, hands):
        self._places = {hand: rule.houses + at for at, hand in enumerate(hands)}
        self._rows = [[] for _ in range(rule.houses + len(hands))]
        self._many = [0] * len(self._rows)
        self._tags = {}

    def deed(self, house, text):
        """Let a house of the picture do a text."""
        self._rows[house].append(("do", text))

    def letter(self, sayer, hearer, text):
        """Let a house of the picture say a letter to another one, which hears it."""
        number = MOST_HOUSES * self._many[sayer] + sayer
        self._many[sayer] = self._many[sayer] + 1
        self._rows[sayer].append(("say", number, hearer, text))
        self._rows[hearer].append(("hear", number))

    def visit(self, hand, house, half):
        """Let a hand with a half under way go to a house."""
        self.letter(self._places[hand], house, "a" if half.word == "ask" else "p")
        if half.word == "put":
            self._tags[(house, len(self._rows[house]))] = half.putting[0]
        self.letter(house, self._places[hand], "a" if half.word == "ask" else "p")

    def begin(self, step):
        """Let a hand begin a call."""
        self.deed(self._places[step[1]], "r" if step[0] == "read" else f"w{step[2]}")

    def end(self, hand):
        """Let a hand end its call."""
        self.deed(self._places[hand], "e")

    def rows(self):
        """The rows of events."""
        return [list(row) for row in self._rows]

    def tags(self):
        """The dict from the tuples (house, state) with which something put is heard to its tags."""
        return {spot: self._tags[spot] for spot in self._tags}


def traced(rule, run):
    """The Trace of a run of the rule."""
    hands = sorted(list({step[1]: True for step in run if step[0] != "lose"}))
    trace = Trace(rule, hands)
    play = Play(rule)
    for step in run:
        half = play.half_of(step[1]) if step[0] == "at" else None
        play.do(step)
        if step[0] == "lose":
            trace.deed(step[1], "l")
        elif step[0] == "at":
            trace.visit(step[1], step[2], half)
            if not play.is_under_way(step[1]):
                trace.end(step[1])
        elif step[0] != "stop":
            trace.begin(step)
    return trace


def tag_flags(trace, houses, tag):
    """The flags of the states at which each of the first houses holds a tag that is at least this one."""
    tags = trace.tags()
    flags = []
    for house, row in enumerate(trace.rows()):
        held = NOTHING[0]
        found = [house >= houses or held >= tag]
        for place, what in enumerate(row):
            held = NOTHING[0] if what == ("do", "l") else max(held, tags.get((house, place + 1), held))
            found.append(house >= houses or held >= tag)
        flags.append(found)
    return flags


def may_go(rule, run, hand):
    """The houses, rising, to which the call of a hand may go behind the run."""
    play = played(rule, run)
    return [house for house in range(rule.houses) if play.can_go(hand, house)]


def meetings_left(meetings, went, barred):
    """What is left of these meetings behind some houses, none of which is left for it to go to being barred."""
    found = []
    for meeting in meetings:
        rest = [house for house in meeting if house not in went]
        if len(rest) + len(went) == len(meeting) and len(shared(rest, barred)) == 0:
            found.append(rest)
    return found


def can_end(rule, run, told, barred):
    """Whether a call under way, told as (hand, half, houses), can end by its own steps, to none of some houses."""
    hand, half, went = told
    writing = meetings_left(rule.writing_meetings(), [], barred)
    meetings = rule.reading_meetings() if half == "ask" else rule.writing_meetings()
    for rest in meetings_left(meetings, went, barred):
        more = list(run) + [("at", hand, house) for house in rest]
        if len(more) <= MOST_STEPS:
            if not played(rule, more).is_under_way(hand):
                return True
            if any([len(more) + len(houses) <= MOST_STEPS for houses in writing]):
                return True
    return False


def hands_without(rule, run, barred):
    """The hands, rising, whose call is under way and can end so."""
    return [told[0] for told in played(rule, run).halves_now() if can_end(rule, run, told, barred)]


def houses_of(words, houses):
    """The list of one or more unlike houses below a number that these words tell; None if they tell none."""
    found = []
    for word in words:
        house = number_below(word, houses)
        if house is None or house in found:
            return None
        found.append(house)
    return found if len(found) > 0 else None


def question_of(words, houses):
    """The tuple of a command that changes nothing, of a rule of so many houses; None if the words tell none."""
    word, rest = words[0], words[1:]
    if word in ("undo", "redo", "cut"):
        return (word,) if len(rest) == 0 else None
    if word in ("without", "back"):
        told = houses_of(rest, houses)
        return None if told is None else (word, told)
    if len(rest) != 1:
        return None
    if word in ("perhaps", "surely"):
        return (word, rest[0]) if is_value(rest[0]) else None
    if word not in ("holds", "may"):
        return None
    number = number_below(rest[0], houses if word == "holds" else HANDS)
    return None if number is None else (word, number)


def command_of(value, houses):
    """The tuple of the command, of a rule of so many houses, that any value tells; None if it tells none."""
    if not isinstance(value, str):
        return None
    change = change_of(value, houses)
    return change if change is not None else question_of(value.split(" "), houses)

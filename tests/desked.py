"""A desk of the tests' own, and pictures of runs, event by event; as the document tells them."""

import copy
import re

from oneshelf.errors import (InvalidCommand, InvalidState, TooMany)
from oneshelf.failures import CannotBeDone, NothingToRedo, NothingToUndo, UnknownValue
from support import is_int, said_by, try_cuts
from turned import own_remaining
from walked import Walk, walk_run


class Refused(Exception):
    """That something is to be refused, by an error of this class that keeps this."""

    def __init__(self, kind, **told):
        self.kind, self.told = kind, told


def hands_of(run):
    return sorted({step[1] for step in run if step[0] != "lose"})


def own_rows(rule, run):
    """The rows of the picture of a run, and the dict from the states of houses by the hearing of a put to its tag."""
    hands = hands_of(run)
    rows = [[] for _ in range(rule.houses + len(hands))]
    said, tags = [0] * len(rows), {}
    walk = Walk(rule)

    def letter(sayer, hearer, text):
        rows[sayer].append(("say", 6 * said[sayer] + sayer, hearer, text))
        rows[hearer].append(("hear", 6 * said[sayer] + sayer))
        said[sayer] += 1

    for step in run:
        word, who = step[0], step[1]
        now = walk.now.get(who) if word != "lose" else None
        walk.do(step)
        if word == "lose":
            rows[who].append(("do", "l"))
        elif word == "write":
            rows[rule.houses + hands.index(who)].append(("do", "w" + step[2]))
        elif word == "read":
            rows[rule.houses + hands.index(who)].append(("do", "r"))
        elif word == "at":
            hand, text = rule.houses + hands.index(who), now["half"][0]
            letter(hand, step[2], text)
            if text == "p":
                tags[step[2], len(rows[step[2]])] = now["puts"][0]
            letter(step[2], hand, text)
            if who not in walk.now:
                rows[hand].append(("do", "e"))
    return rows, tags


def check_rows(rows):
    """Refuse rows of too many houses or events."""
    if len(rows) > 6:
        raise Refused(TooMany, what="houses", limit=6)
    if sum(len(row) for row in rows) > 120:
        raise Refused(TooMany, what="events", limit=120)


def holds_enough(rule, rows, tags, cut, tag):
    """Whether at a cut all houses of the rule hold a tag that is at least this one."""
    for house in range(rule.houses):
        held = (0, -1)
        for k in range(cut[house]):
            if rows[house][k] == ("do", "l"):
                held = (0, -1)
            held = max(held, tags.get((house, k + 1), held))
        if held < tag:
            return False
    return True


def all_pass(rows, cuts, good):
    """Whether each line passes a good cut: no way from cut to cut leads past them all."""
    end = tuple(len(row) for row in rows)
    others = {cut for cut in cuts if cut not in good}
    found, waiting = set(), [cut for cut in [(0,) * len(rows)] if cut in others]
    while waiting:
        cut = waiting.pop()
        if cut == end:
            return False
        for house in range(len(rows)):
            later = cut[:house] + (cut[house] + 1,) + cut[house + 1:]
            if later in others and later not in found:
                found.add(later)
                waiting.append(later)
    return True


def quick_cuts(rows):
    """All cuts, by going from each one to the next ones."""
    found, waiting = {(0,) * len(rows)}, [(0,) * len(rows)]
    while waiting:
        cut = waiting.pop()
        for house, row in enumerate(rows):
            if cut[house] == len(row):
                continue
            what = row[cut[house]]
            sayer = said_by(rows, what[1]) if what[0] == "hear" else None
            later = cut[:house] + (cut[house] + 1,) + cut[house + 1:]
            if later not in found and (sayer is None or sayer[1] < cut[sayer[0]]):
                found.add(later)
                waiting.append(later)
    return sorted(found)


def told(values):
    return " ".join(str(value) for value in values) if values else "none"


class OwnDesk:
    """Changes that are done and taken back, asked by commands."""

    def __init__(self, rule):
        self.rule, self.done, self.taken = rule, [], []

    def run(self):
        return [change for change in self.done if change[0] != "note"]

    def notes(self):
        found = [0] * self.rule.houses
        for change in self.done:
            if change[0] == "note":
                found[change[1]] = change[2]
        return found

    def rows(self):
        rows, tags = own_rows(self.rule, self.run())
        check_rows(rows)
        return rows, tags

    def parse(self, command):
        """The words of a command: numbers as such; None if it is none."""
        house, hand, value = f"([0-{self.rule.houses - 1}])", "([0-7])", "([a-z0-9]{1,7})"
        forms = [f"(write) {hand} {value}", f"(read|stop|may) {hand}", f"(at) {hand} {house}", f"(lose|holds) {house}",
                 f"(note) {house} (0|[1-9][0-9]*)", "(undo|redo|cut)", f"(perhaps|surely) {value}",
                 f"(without|back)((?: {house})+)"]
        if type(command) is not str:
            return None
        for form in forms:
            found = re.fullmatch(form, command)
            if found is None:
                continue
            words = list(found.groups())
            if words[0] in ("without", "back"):
                houses = [int(word) for word in words[1].split()]
                return None if len(set(houses)) < len(houses) else [words[0], houses]
            texts = words[0] in ("write", "perhaps", "surely")
            return [word if k == 0 or (texts and k == len(words) - 1) else int(word) for k, word in enumerate(words)]
        return None

    def do(self, command):
        words = self.parse(command)
        if words is None:
            raise Refused(InvalidCommand, value=command)
        if words[0] in ("write", "read", "at", "stop", "lose"):
            return self.step(tuple(words))
        return getattr(self, "do_" + words[0])(*words[1:])

    def change(self, what):
        if len(self.done) == 300:
            raise Refused(TooMany, what="changes", limit=300)
        self.done, self.taken = self.done + [what], []

    def step(self, step):
        run = self.run()
        if len(run) == 200:
            raise Refused(TooMany, what="steps", limit=200)
        walk = walk_run(self.rule, run)
        if not walk.can(step):
            raise Refused(CannotBeDone, value=step)
        self.change(step)
        walk.do(step)
        ended = [call for call in walk.calls if call["end"] == len(run) and call["word"] == "read"]
        return ended[0]["value"] or "-" if ended else "done"

    def do_note(self, house, state):
        rows, _ = self.rows()
        if not is_int(state) or not 0 <= state <= len(rows[house]):
            raise Refused(InvalidState, value=state)
        self.change(("note", house, state))
        return "done"

    def do_undo(self):
        if not self.done:
            raise Refused(NothingToUndo)
        self.done, self.taken = self.done[:-1], self.taken + [self.done[-1]]
        return str(len(self.done))

    def do_redo(self):
        if not self.taken:
            raise Refused(NothingToRedo)
        self.done, self.taken = self.done + [self.taken[-1]], self.taken[:-1]
        return str(len(self.done))

    def do_holds(self, house):
        (count, hand), value = walk_run(self.rule, self.run()).held[house]
        return f"{count} {hand} {value or '-'}"

    def do_may(self, hand):
        walk = walk_run(self.rule, self.run())
        walk.steps = []
        return told([house for house in range(self.rule.houses) if walk.can(("at", hand, house))])

    def do_without(self, barred):
        walk = walk_run(self.rule, self.run())
        return told([hand for hand in sorted(walk.now) if self.can_end(walk, hand, barred)])

    def can_end(self, walk, hand, barred):
        if hand not in walk.now:
            return True
        for house in range(self.rule.houses):
            if house not in barred and walk.can(("at", hand, house)):
                later = copy.deepcopy(walk)
                later.do(("at", hand, house))
                if self.can_end(later, hand, barred):
                    return True
        return False

    def good_cuts(self, value):
        """All cuts, and those at which all houses hold enough; None for these while the write has no tag."""
        tags = [call["tag"] for call in walk_run(self.rule, self.run()).calls
                if call["word"] == "write" and call["value"] == value]
        if not tags:
            raise Refused(UnknownValue, value=value)
        rows, put = self.rows()
        if tags[0] is None:
            return rows, [], None
        cuts = quick_cuts(rows)
        return rows, cuts, [cut for cut in cuts if holds_enough(self.rule, rows, put, cut, tags[0])]

    def do_perhaps(self, value):
        rows, _, good = self.good_cuts(value)
        if not good:
            return "none"
        least = tuple(min(cut[k] for cut in good) for k in range(len(rows)))
        assert least in good
        return told(least)

    def do_surely(self, value):
        rows, cuts, good = self.good_cuts(value)
        return "yes" if good and all_pass(rows, cuts, set(good)) else "no"

    def do_cut(self):
        rows, _ = self.rows()
        cuts = [cut for cut in quick_cuts(rows) if all(cut[k] <= note for k, note in enumerate(self.notes()))]
        return told([max(cut[k] for cut in cuts) for k in range(len(rows))])

    def do_back(self, fallen):
        rows, _ = self.rows()
        kept = {}
        for house, row in enumerate(rows):
            more = [self.notes()[house]] if house < self.rule.houses else [
                k + 1 for k, what in enumerate(row) if what == ("do", "e")]
            kept[house] = sorted({0, len(row), *more})
        if max(len(row) for row in rows) ** len(rows) < 3000:
            return told(own_remaining(rows, kept, fallen, []))
        return told(stepwise_remaining(rows, kept, fallen))


def stepwise_remaining(rows, kept, fallen):
    """The remaining cut, coming down from what is left until it is a cut, nothing being written down."""
    left = []
    for house, row in enumerate(rows):
        states = kept[house][:-1] if house in fallen and len(kept[house]) > 1 else kept[house]
        more = {state for first in states for state in range(first, len(row) + 1)
                if all(what[0] != "hear" for what in row[first:state])}
        left.append(sorted(more))
    cut = [states[-1] for states in left]
    moved = True
    while moved:
        moved = False
        for house, row in enumerate(rows):
            for place in range(cut[house]):
                sayer = said_by(rows, row[place][1]) if row[place][0] == "hear" else None
                if sayer is not None and sayer[1] >= cut[sayer[0]]:
                    cut[house] = max(state for state in left[house] if state <= place)
                    moved = True
                    break
    return cut


def few_cuts(rows):
    """Whether all cuts can be tried."""
    many = 1
    for row in rows:
        many *= len(row) + 1
    return many <= 4000 and len(try_cuts([[]])) == 1

"""Councils for the tests, and their runs, walked by houses of the tests' own."""

from oneshelf.ballots import Council
from oneshelf.trees import Tree
from support import Dice, is_int, is_listy
from test_meetings import try_meetings
from walked import LETTERS, some_trees_of


def tuples_of(tree):
    return [tuple(houses) for houses in try_meetings(tree)]


def some_councils(many=200):
    """Councils of one to five houses, safe and not; the trees need not have the same houses."""
    found = []
    for seed in range(many):
        dice, houses = Dice(seed + 400), 1 + seed % 5
        trees = some_trees_of(houses)
        promise = dice.one_of(trees)
        accept = ~promise if seed % 3 == 0 else dice.one_of(trees)
        found.append(Council(promise, accept))
    return found


def is_text(value):
    return type(value) is str and len(value) <= 8 and all(sign in LETTERS for sign in value)


class House:
    def __init__(self):
        self.promised, self.held = None, None


class Room:
    """The houses of a council and the ballots so far; as the document tells it, for the tests alone."""

    def __init__(self, council):
        self.asks, self.tells = tuples_of(council.promise), tuples_of(council.accept)
        self.houses = {house: House() for house in sorted(council.promise.members() + council.accept.members())}
        self.ballots, self.steps = {}, []

    def is_meeting(self, value, meetings):
        return type(value) is tuple and all(is_int(house) for house in value) and value in meetings

    def can(self, step):
        if type(step) is not tuple or not step or type(step[0]) is not str or len(step) < 3:
            return False
        word, number = step[0], step[1]
        if not is_int(number) or number < 0:
            return False
        if word == "start" and len(step) == 4:
            return number not in self.ballots and is_text(step[2]) and self.is_meeting(step[3], self.asks)
        if len(step) != 3 or number not in self.ballots:
            return False
        ballot, what = self.ballots[number], step[2]
        if word == "tell":
            return set(ballot["replies"]) == set(ballot["asked"]) and ballot["told"] is None and self.is_meeting(
                what, self.tells)
        if not is_int(what):
            return False
        if word == "promise":
            free = what in ballot["asked"] and self.houses[what].promised
            return what in ballot["asked"] and (free is None or free < number)
        if word == "accept":
            if ballot["told"] is None or what not in ballot["told"] or what in ballot["accepted"]:
                return False
            return self.houses[what].promised is None or self.houses[what].promised <= number
        return False

    def do(self, step):
        word, number = step[0], step[1]
        self.steps.append(step)
        if word == "start":
            self.ballots[number] = {"own": step[2], "asked": step[3], "replies": {}, "told": None, "value": None,
                                    "accepted": []}
            return
        ballot = self.ballots[number]
        if word == "promise":
            ballot["replies"][step[2]] = self.houses[step[2]].held
            self.houses[step[2]].promised = number
        elif word == "tell":
            ballot["told"] = step[2]
            held = sorted(reply for reply in ballot["replies"].values() if reply is not None)
            ballot["value"] = held[-1][1] if held else ballot["own"]
        else:
            self.houses[step[2]].promised = number
            self.houses[step[2]].held = (number, ballot["value"])
            ballot["accepted"].append(step[2])

    def states(self):
        return {number: (house.promised, house.held) for number, house in self.houses.items()}

    def told(self):
        return {number: (ballot["own"], ballot["asked"], dict(sorted(ballot["replies"].items())), ballot["told"],
                         ballot["value"]) for number, ballot in sorted(self.ballots.items())}

    def chosen(self):
        return sorted((number, ballot["value"]) for number, ballot in self.ballots.items()
                      if ballot["told"] is not None and set(ballot["accepted"]) == set(ballot["told"]))


def walk_council(council, value, limit=400):
    """The Room of a run; otherwise the position that is told."""
    if not is_listy(value) or len(value) > limit:
        return None
    room = Room(council)
    for position, step in enumerate(value):
        if not room.can(step):
            return position
        room.do(step)
    return room


def next_steps(room, dice, values="xyz"):
    """Some steps that could come next, of all ballots that are under way, and new ones."""
    found = []
    for number, ballot in room.ballots.items():
        found += [("promise", number, house) for house in ballot["asked"]]
        found += [("accept", number, house) for house in ballot["told"] or ()]
        found += [("tell", number, meeting) for meeting in room.tells]
    found = [step for step in found if room.can(step)]
    new = [("start", dice.below(9), dice.one_of(values), dice.one_of(room.asks)) for _ in range(2)]
    return found + [step for step in new if room.can(step)]


def some_council_run(council, seed, many):
    """A run of at most so many steps, ballots behind one another and under way at once."""
    dice, room = Dice(seed), Room(council)
    while len(room.steps) < many:
        steps = next_steps(room, dice)
        going = [step for step in steps if step[0] != "start"]
        if not steps:
            break
        room.do(dice.one_of(going if going and dice.below(6) else steps))
    return room.steps


def wide_tree(meetings):
    """A tree with 200 or 201 meetings."""
    parts = [Tree.of(1, *range(8)), Tree.of(1, *range(8, 13)), Tree.of(1, *range(13, 18))]
    tree = Tree.of(3, *parts)
    return tree if meetings == 200 else Tree.of(1, tree, 18)

"""Rules for the tests, and their runs walked step by step."""

from oneshelf.rules import Rule
from oneshelf.trees import Tree
from support import Dice, is_int, is_listy
from test_meetings import try_meetings

LETTERS = "abcdefghijklmnopqrstuvwxyz0123456789"
WRITERS = ("one", "many", "blind")
BACKS = ("never", "always", "if unlike")


def some_trees_of(houses):
    """Trees of houses below a number: one house, all houses, majorities, grids, and others that are not plain."""
    row = list(range(houses))
    found = [Tree(0), Tree(houses - 1), Tree.of(1, *row), Tree.of(houses, *row), Tree.of(houses // 2 + 1, *row)]
    if houses > 2:
        found += [Tree.of(2, 0, 1), Tree.of(2, *row[1:]), Tree.of(1, 0, Tree.of(2, 1, 2)), Tree.of(2, 0, Tree.of(1, 1, 2)),
                  Tree.of(2, 0, 1, Tree.of(1, 0, 2)), Tree.of(houses - 1, *row)]
    if houses > 3:
        found += [Tree.of(2, Tree.of(1, 0, 1), Tree.of(1, 2, 3)), Tree.of(1, Tree.of(2, 0, 1), Tree.of(2, 2, 3)),
                  Tree.of(2, Tree.of(2, 0, 1, 2), Tree.of(2, 1, 2, 3)), Tree.of(3, 0, 1, 2)]
    return found


def some_rules(many=400):
    """Rules of one to five houses, with all their words."""
    found = []
    for seed in range(many):
        dice = Dice(seed)
        houses = 1 + seed % 5
        trees = some_trees_of(houses)
        reading, writing = dice.one_of(trees), dice.one_of(trees)
        if seed % 3 == 0:
            writing = ~reading
        writers = dice.one_of(("one", "one", "one", "many", "many", "blind"))
        found.append(Rule(houses, reading, writing, writers, dice.one_of(BACKS)))
    return found


class Walk:
    """A run, step by step; as the document tells it, for the tests alone."""

    def __init__(self, rule):
        self.rule = rule
        self.reading = [set(houses) for houses in try_meetings(rule.reading)]
        self.writing = [set(houses) for houses in try_meetings(rule.writing)]
        self.held = {house: ((0, -1), "") for house in range(rule.houses)}
        self.calls, self.now, self.stopped, self.entries, self.lost, self.steps = [], {}, set(), [], set(), []

    def can(self, step):
        if len(self.steps) >= 200 or type(step) is not tuple or len(step) not in (2, 3) or type(step[0]) is not str:
            return False
        if not is_int(step[1]) or step[1] < 0:
            return False
        if step[0] == "lose":
            return len(step) == 2 and step[1] < self.rule.houses
        hand = step[1]
        if hand >= 8 or hand in self.stopped:
            return False
        if step[0] in ("stop", "read"):
            return len(step) == 2 and (hand in self.now) is (step[0] == "stop")
        if len(step) != 3:
            return False
        if step[0] == "write":
            text = step[2]
            if type(text) is not str or not 1 <= len(text) <= 7 or not all(sign in LETTERS for sign in text):
                return False
            if self.rule.writers == "one" and hand != 0:
                return False
            return hand not in self.now and text not in [call["value"] for call in self.calls if call["word"] == "write"]
        if step[0] == "at" and hand in self.now and is_int(step[2]) and 0 <= step[2] < self.rule.houses:
            went = self.now[hand]["went"]
            lots = self.reading if self.now[hand]["half"] == "ask" else self.writing
            return step[2] not in went and any(went | {step[2]} <= lot for lot in lots)
        return False

    def do(self, step):
        word, hand = step[0], step[1]
        if word == "lose":
            self.held[hand] = ((0, -1), "")
            self.lost.add(hand)
        elif word == "stop":
            del self.now[hand]
            self.stopped.add(hand)
        elif word == "at":
            self.go(hand, step[2])
        else:
            call = {"hand": hand, "word": word, "value": step[2] if word == "write" else None, "tag": None,
                    "begin": len(self.steps), "end": None}
            self.calls.append(call)
            self.entries.append(("call", hand, "shelf", step[:1] + step[2:]))
            self.now[hand] = {"call": call, "half": "ask", "went": set(), "told": []}
            if word == "write" and self.rule.writers != "many":
                self.put(hand, call["value"], (1 + self.own_count(hand), hand))
        self.steps.append(step)

    def own_count(self, hand):
        return max([call["tag"][0] for call in self.calls if call["hand"] == hand and call["word"] == "write"
                    and call["tag"]] + [0])

    def put(self, hand, value, tag):
        self.now[hand]["call"]["tag"] = tag
        self.now[hand] = {"call": self.now[hand]["call"], "half": "put", "went": set(), "puts": (tag, value)}

    def go(self, hand, house):
        now = self.now[hand]
        now["went"].add(house)
        if now["half"] == "ask":
            now["told"].append(self.held[house])
        elif now["puts"][0] > self.held[house][0]:
            self.held[house] = now["puts"]
        if now["went"] not in (self.reading if now["half"] == "ask" else self.writing):
            return
        call = now["call"]
        if now["half"] == "put":
            self.end(hand, now["puts"][1])
        elif call["word"] == "write":
            most = max([tag[0] for tag, _ in now["told"]] + [self.own_count(hand)])
            self.put(hand, call["value"], (most + 1, hand))
        else:
            tag, value = max(now["told"])
            call["tag"] = tag
            unlike = len({told[0] for told in now["told"]}) > 1
            if self.rule.back == "always" or (self.rule.back == "if unlike" and unlike):
                self.put(hand, value, tag)
            else:
                self.end(hand, value)

    def end(self, hand, value):
        call = self.now.pop(hand)["call"]
        call["value"], call["end"] = value, len(self.steps)
        self.entries.append(("answer", hand, value if call["word"] == "read" else ""))

    def told_calls(self):
        return [(call["hand"], call["word"], call["value"], call["tag"], call["begin"], call["end"])
                for call in self.calls]

    def told_now(self):
        return [(hand, self.now[hand]["half"], sorted(self.now[hand]["went"])) for hand in sorted(self.now)]


def walk_run(rule, value):
    """The Walk of a run; otherwise the position that is told."""
    if not is_listy(value) or len(value) > 200:
        return None
    walk = Walk(rule)
    for position, step in enumerate(value):
        if not walk.can(step):
            return position
        walk.do(step)
    return walk


def some_run(rule, seed, many, hands=3, losing=0):
    """A run of at most so many steps, in which only told houses lose, and hands stop now and then."""
    dice, walk, texts = Dice(seed), Walk(rule), 0
    losers = [dice.below(rule.houses) for _ in range(losing)]
    tries = 0
    while len(walk.steps) < many and tries < 30 * many:
        tries += 1
        hand, choice = dice.below(hands), dice.below(40)
        if choice == 0:
            step = ("stop", hand)
        elif choice < 3 and losers:
            step = ("lose", dice.one_of(losers))
        elif hand in walk.now:
            step = ("at", hand, dice.below(rule.houses))
        elif dice.below(2):
            step = ("read", hand)
        else:
            texts += 1
            step = ("write", hand, f"v{texts}")
        if walk.can(step):
            walk.do(step)
    return walk.steps

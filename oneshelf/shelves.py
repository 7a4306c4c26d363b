"""Runs of rules, step by step: what houses hold, what is under way, and the history."""

from oneshelf.basics import is_list, is_number_below, is_text
from oneshelf.errors import InvalidRun
from oneshelf.histories import History

HANDS = 8
MOST_STEPS = 200
LONGEST_VALUE = 7
NOTHING = ((0, -1), "")


class Half:
    """A half of a call: where it went, and what it was told or puts there."""

    def __init__(self, number, word, putting):
        self.number = number
        self.word = word
        self.putting = putting
        self.went = []
        self.told = []


class Play:
    """A rule and what came of the steps of a run so far."""

    def __init__(self, rule):
        self._rule = rule
        self._meetings = {"ask": rule.reading_meetings(), "put": rule.writing_meetings()}
        self._held = [NOTHING] * rule.houses
        self._calls = []
        self._halves = {}
        self._stopped = {}
        self._lost = {}
        self._greatest = {}
        self._entries = []
        self._steps = 0

    def can(self, value):
        """Whether any value is a step that can be done now."""
        if self._steps == MOST_STEPS or not isinstance(value, tuple) or len(value) < 2:
            return False
        word = value[0]
        if not isinstance(word, str):
            return False
        if word == "lose":
            return len(value) == 2 and is_number_below(value[1], self._rule.houses)
        if not is_number_below(value[1], HANDS):
            return False
        if word == "write":
            return len(value) == 3 and self.can_write(value[1], value[2])
        if word == "read":
            return len(value) == 2 and self.is_free(value[1])
        if word == "at":
            return len(value) == 3 and self.can_go(value[1], value[2])
        return word == "stop" and len(value) == 2 and value[1] in self._halves

    def is_free(self, hand):
        """Whether a hand has no call under way, and none that stopped."""
        return hand not in self._halves and hand not in self._stopped

    def can_write(self, hand, text):
        """Whether a hand can begin a write of any value."""
        if not self.is_free(hand) or self._rule.writers == "one" and hand != 0:
            return False
        if not is_text(text) or not 1 <= len(text) <= LONGEST_VALUE:
            return False
        return not any([call[1] == "write" and call[2] == text for call in self._calls])

    def can_go(self, hand, house):
        """Whether the call of a hand can go to any value as a house."""
        if hand not in self._halves or not is_number_below(house, self._rule.houses):
            return False
        half = self._halves[hand]
        if house in half.went:
            return False
        more = half.went + [house]
        return any([all([other in meeting for other in more]) for meeting in self._meetings[half.word]])

    def do(self, step):
        """Do a step that can be done."""
        word, who = step[0], step[1]
        if word == "write":
            self.begin_write(who, step[2])
        elif word == "read":
            self.begin_call(who, ["read", None, None], ("read",))
            self._halves[who] = Half(len(self._calls) - 1, "ask", None)
        elif word == "at":
            self.go(who, step[2])
        elif word == "stop":
            self._stopped[who] = True
            del self._halves[who]
        else:
            self._held[who] = NOTHING
            self._lost[who] = True
        self._steps = self._steps + 1

    def begin_call(self, hand, told, call):
        """Begin a call, of which word, value and tag are told."""
        self._calls.append([hand] + told + [self._steps, None])
        self._entries.append(("call", hand, "shelf", call))

    def begin_write(self, hand, text):
        """Begin a write; only if there are many writers it asks first."""
        self.begin_call(hand, ["write", text, None], ("write", text))
        self._halves[hand] = Half(len(self._calls) - 1, "ask", None)
        if self._rule.writers != "many":
            self.put_write(hand, 0)

    def put_write(self, hand, count):
        """Let a write put, by a count that is 1 more than this one and than those of its hand's own writes."""
        half = self._halves[hand]
        count = 1 + max(count, self._greatest.get(hand, 0))
        self._greatest[hand] = count
        call = self._calls[half.number]
        call[3] = (count, hand)
        self._halves[hand] = Half(half.number, "put", ((count, hand), call[2]))

    def go(self, hand, house):
        """Let the call of a hand go to a house, and end its half if all of a meeting are done."""
        half = self._halves[hand]
        half.went.append(house)
        if half.word == "ask":
            half.told.append(self._held[house])
        elif half.putting[0] > self._held[house][0]:
            self._held[house] = half.putting
        if tuple(sorted(half.went)) in self._meetings[half.word]:
            self.end_half(hand, half)

    def end_half(self, hand, half):
        """End a half: the call puts next, or ends."""
        call = self._calls[half.number]
        if half.word == "put":
            self.end_call(hand, call, half.putting[1])
        elif call[1] == "write":
            self.put_write(hand, max([tag[0] for tag, _ in half.told]))
        else:
            greatest = max(half.told)
            call[3] = greatest[0]
            if self.writes_back(half.told):
                self._halves[hand] = Half(half.number, "put", greatest)
            else:
                self.end_call(hand, call, greatest[1])

    def writes_back(self, told):
        """Whether a read that was told this writes back."""
        if self._rule.back == "if unlike":
            return any([tag != told[0][0] for tag, _ in told])
        return self._rule.back == "always"

    def end_call(self, hand, call, value):
        """End a call, with the value that it wrote or read."""
        call[2] = value
        call[5] = self._steps
        del self._halves[hand]
        self._entries.append(("answer", hand, value if call[1] == "read" else ""))

    def half_of(self, hand):
        """The half under way of a hand with a call under way."""
        return self._halves[hand]

    def is_under_way(self, hand):
        """Whether a hand has a call under way."""
        return hand in self._halves

    def held(self):
        """What the houses hold."""
        return list(self._held)

    def halves_now(self):
        """The tuples (hand, half, houses) of the calls that have neither ended nor stopped, sorted."""
        return [(hand, self._halves[hand].word, sorted(self._halves[hand].went)) for hand in sorted(list(self._halves))]

    def told_calls(self):
        """The tuples (hand, word, value, tag, begin, end) of all calls."""
        return [tuple(call) for call in self._calls]

    def told_history(self):
        """The History of the calls."""
        return History(self._entries)

    def lost(self):
        """The houses that ever lost, sorted."""
        return sorted(list(self._lost))


def played(rule, run):
    """What came of a run."""
    if not is_list(run) or len(run) > MOST_STEPS:
        raise InvalidRun(None)
    play = Play(rule)
    for position, step in enumerate(run):
        if not play.can(step):
            raise InvalidRun(position)
        play.do(step)
    return play


def is_run(rule, value):
    """Whether any value is a run of the rule."""
    if not is_list(value):
        return False
    play = Play(rule)
    for step in value:
        if not play.can(step):
            return False
        play.do(step)
    return True


def can_be_done(rule, run, value):
    """Whether any value is a step that can be done behind the run."""
    return played(rule, run).can(value)


def holding(rule, run):
    """The list of the tuples (tag, value) that the houses hold at the end of the run."""
    return played(rule, run).held()


def under_way(rule, run):
    """The sorted list of the tuples (hand, half, houses) of the calls under way at the end of the run."""
    return played(rule, run).halves_now()


def calls(rule, run):
    """The list of the tuples (hand, word, value, tag, begin, end) of the calls of the run."""
    return played(rule, run).told_calls()


def history(rule, run):
    """The History of the run."""
    return played(rule, run).told_history()


def losers(rule, run):
    """The sorted list of the houses that ever lose in the run."""
    return played(rule, run).lost()

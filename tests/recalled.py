"""Histories for the tests, and what explains or refuses them, worked out by trying all."""

import itertools

from oneshelf.kinds import Kind
from support import Dice, is_int, is_listy

LETTERS = "abcdefghijklmnopqrstuvwxyz"
FLAG = Kind({"get": [(0, 0), (1, 1)], "set": [(7, 1), (7, 1)], "turn": [(0, 1), (1, 0)]})
COUNTER = Kind({"add": [(k, (k + 1) % 5) for k in range(5)], "see": [(k, k) for k in range(5)]})


def judge_text(value):
    return type(value) is str and len(value) <= 8 and all(sign in LETTERS + "0123456789" for sign in value)


def judge_name(value):
    return judge_text(value) and value != "" and value[0] in LETTERS


def judge_shelf_call(value):
    if type(value) is not tuple or len(value) == 0 or type(value[0]) is not str:
        return False
    return value == ("read",) or (len(value) == 2 and value[0] == "write" and judge_text(value[1]))


def judge_entry(value):
    if type(value) is not tuple or len(value) not in (3, 4) or type(value[0]) is not str:
        return False
    if not is_int(value[1]) or not 0 <= value[1] <= 9:
        return False
    if len(value) == 3:
        return value[0] == "answer" and (judge_text(value[2]) or (is_int(value[2]) and 0 <= value[2] <= 99))
    return value[0] == "call" and judge_name(value[2]) and (judge_name(value[3]) or judge_shelf_call(value[3]))


def judge_entries(value):
    """Whether a value is a list of entries by turns, and the position that is told."""
    if not is_listy(value):
        return False, None
    for position, entry in enumerate(value):
        if not judge_entry(entry):
            return False, position
        mine = [other[0] for other in value[:position] if other[1] == entry[1]]
        if (entry[0] == "call") is not (len(mine) % 2 == 0):
            return False, position
    return True, None


def try_calls(entries):
    """The calls, each with the first answer of its hand behind it."""
    found = []
    for position, entry in enumerate(entries):
        if entry[0] == "call":
            ends = [k for k in range(position, len(entries)) if entries[k][0] == "answer" and entries[k][1] == entry[1]]
            end, answer = (ends[0], entries[ends[0]][2]) if ends else (None, None)
            found.append((entry[1], entry[2], entry[3], position, end, answer))
    return found


def ahead(calls, one, other):
    return calls[one][4] is not None and calls[one][4] < calls[other][3]


def do_call(first, now, call):
    """What a call answers, and what the thing is then."""
    if isinstance(first, str):
        return ("", call[1]) if call[0] == "write" else (now, now)
    return first[0].after(now, call)


def at_first(things):
    return {name: first if isinstance(first, str) else first[1] for name, first in things.items()}


def walk_numbers(entries, things, numbers):
    """The answers of calls in a sequence."""
    calls, now, found = try_calls(entries), at_first(things), []
    for number in numbers:
        name = calls[number][1]
        answer, now[name] = do_call(things[name], now[name], calls[number][2])
        found.append(answer)
    return found


def judge_order(entries, things, value, own=False):
    """Whether a value is an order, or an own order, that explains."""
    calls = try_calls(entries)
    if not is_listy(value) or not all(is_int(k) and 0 <= k < len(calls) for k in value) or len(set(value)) < len(value):
        return False
    if not all(k in value for k in range(len(calls)) if calls[k][4] is not None):
        return False
    place = {number: at for at, number in enumerate(value)}
    for one in range(len(calls)):
        for other in value:
            must = one < other and calls[one][0] == calls[other][0] if own else ahead(calls, one, other)
            if must and place.get(one, len(calls)) > place[other]:
                return False
    told = walk_numbers(entries, things, value)
    return all(calls[number][4] is None or answer == calls[number][5] for number, answer in zip(value, told))


def try_orders(entries, things, own=False):
    """All lists that explain, sorted."""
    calls = try_calls(entries)
    found = []
    for many in range(len(calls) + 1):
        for numbers in itertools.permutations(range(len(calls)), many):
            if judge_order(entries, things, list(numbers), own):
                found.append(list(numbers))
    return sorted(found)


class Ways:
    """The spots of a history, and the steps between them, as the document tells them."""

    def __init__(self, entries, things, own=False):
        self.calls, self.things, self.own = try_calls(entries), things, own
        self.hands = sorted({call[0] for call in self.calls})
        self.names = sorted({call[1] for call in self.calls})

    def first(self):
        now = at_first(self.things)
        return (tuple(0 for _ in self.hands), tuple(now[name] for name in self.names))

    def done(self, spot):
        found = set()
        for hand, count in zip(self.hands, spot[0]):
            found |= set([k for k, call in enumerate(self.calls) if call[0] == hand][:count])
        return found

    def steps(self, spot):
        found, done = [], self.done(spot)
        for at, hand in enumerate(self.hands):
            left = [k for k, call in enumerate(self.calls) if call[0] == hand and k not in done]
            if not left:
                continue
            number = left[0]
            if not self.own and not all(k in done for k in range(len(self.calls)) if ahead(self.calls, k, number)):
                continue
            call = self.calls[number]
            where = self.names.index(call[1])
            answer, state = do_call(self.things[call[1]], spot[1][where], call[2])
            if call[4] is None or answer == call[5]:
                counts, states = list(spot[0]), list(spot[1])
                counts[at] += 1
                states[where] = state
                found.append((tuple(counts), tuple(states)))
        return found

    def is_last(self, spot):
        done = self.done(spot)
        return all(k in done for k, call in enumerate(self.calls) if call[4] is not None)

    def all(self):
        found, waiting = {self.first()}, [self.first()]
        while waiting:
            for spot in self.steps(waiting.pop()):
                if spot not in found:
                    found.add(spot)
                    waiting.append(spot)
        return sorted(found)

    def is_spot(self, value):
        if type(value) is not tuple or len(value) != 2 or type(value[0]) is not tuple or type(value[1]) is not tuple:
            return False
        if len(value[0]) != len(self.hands) or len(value[1]) != len(self.names):
            return False
        for count, hand in zip(value[0], self.hands):
            if not is_int(count) or not 0 <= count <= sum(call[0] == hand for call in self.calls):
                return False
        for state, name in zip(value[1], self.names):
            first = self.things[name]
            if not (judge_text(state) if isinstance(first, str) else is_int(state) and 0 <= state < first[0].states):
                return False
        return True

    def judge(self, value):
        """Whether a value is a refusal."""
        if not is_listy(value) or not all(self.is_spot(spot) for spot in value) or len(set(value)) < len(value):
            return False
        if self.first() not in value or any(self.is_last(spot) for spot in value):
            return False
        return all(later in value for spot in value for later in self.steps(spot))


def explained(entries, things, own=False):
    ways = Ways(entries, things, own)
    return any(ways.is_last(spot) for spot in ways.all())


def some_things(seed):
    """Things of which some are plain shelves."""
    return [{"s": ""}, {"s": "a"}, {"s": (FLAG, 0)}, {"s": (COUNTER, 2), "t": "b"}, {"s": "", "t": "a"},
            {"s": (FLAG, 1), "t": (COUNTER, 0)}, {"s": "c", "t": ""}][seed % 7]


def some_entries(seed, things, hands, many, lies=5):
    """Entries of so many calls at most, answered as the things are at some moment, but now and then otherwise."""
    dice = Dice(seed)
    entries, waiting, now, calls = [], {}, at_first(things), 0
    while calls < many or (waiting and dice.below(6)):
        hand = dice.below(hands)
        if hand in waiting:
            name, call, answer = waiting[hand]
            if answer is None:
                answer, now[name] = do_call(things[name], now[name], call)
                waiting[hand] = (name, call, answer)
            elif dice.below(lies) == 0:
                wrong = dice.one_of(["", "a", "b", "c"]) if isinstance(things[name], str) else dice.below(3)
                entries.append(("answer", hand, wrong))
                del waiting[hand]
            else:
                entries.append(("answer", hand, answer))
                del waiting[hand]
        elif calls < many:
            name = dice.one_of(sorted(things))
            if isinstance(things[name], str):
                call = ("write", dice.one_of("abc")) if dice.below(2) else ("read",)
            else:
                call = dice.one_of(things[name][0].calls())
            entries.append(("call", hand, name, call))
            waiting[hand] = (name, call, None)
            calls += 1
    return entries


def histories(many, calls=5, lies=5):
    """Tuples of entries and things, of up to so many calls."""
    found = [([], {}), ([], {"s": ""}), ([("call", 3, "s", ("read",))], {"s": "a"})]
    found.append(([("call", 9, "t", ("write", "a")), ("call", 0, "s", "get")], {"s": (FLAG, 1), "t": "a", "u": "b"}))
    for seed in range(many):
        things = some_things(seed)
        found.append((some_entries(seed, things, 1 + seed % 4, 1 + seed % calls, lies), things))
    return found


def plain_entries(seed, names, hands, many, lies=4):
    """Entries of a plain history: each text is written once, some reads tell what they should not."""
    dice = Dice(seed)
    entries, waiting, now, calls, texts = [], {}, {name: "" for name in names}, 0, {name: ["", "q"] for name in names}
    while calls < many or (waiting and dice.below(8)):
        hand = dice.below(hands)
        if hand in waiting:
            name, call, answer = waiting[hand]
            if answer is None:
                answer, now[name] = do_call("", now[name], call)
                waiting[hand] = (name, call, answer)
            else:
                if call == ("read",) and dice.below(lies) == 0:
                    answer = dice.one_of(texts[name])
                entries.append(("answer", hand, answer))
                del waiting[hand]
        elif calls < many:
            name = dice.one_of(names)
            call = ("read",)
            if dice.below(2):
                call = ("write", f"w{calls}")
                texts[name].append(f"w{calls}")
            entries.append(("call", hand, name, call))
            waiting[hand] = (name, call, None)
            calls += 1
    return entries


def plain_histories(many, calls=6, lies=4):
    """Tuples of entries of plain histories and what the shelves hold at first, of up to so many calls."""
    found = [([], {}), ([("call", 1, "s", ("write", "a"))], {"s": ""})]
    for seed in range(many):
        names = ("s", "st")[:1 + seed % 3 // 2]
        entries = plain_entries(seed, names, 1 + seed % 4, 1 + seed % calls, lies)
        found.append((entries, {name: "" for name in sorted({call[1] for call in try_calls(entries)})}))
    return found

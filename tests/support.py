"""What the tests share: asking by position and by name, and working things out by trying all."""

import copy
import itertools
import unittest

from oneshelf.pictures import Picture

WORDS = "abcdefghijklmnopqrstuvwxyz0123456789"


class Thing:
    """A value of no kind that the package knows."""


def junk():
    """Values of many kinds, new ones at each call."""
    return [
        None, True, False, -1, 0, 1, 7, 10 ** 20, -10 ** 20, "", "a", "do", "0", b"", b"do",
        [], (), {}, set(), frozenset(), [None], (None,), [True], (False,), [[]], ((),), [()], ([],),
        {0: 0}, {"a": 1}, {1}, (0,), (1,), (0, 0), (True, False), (False, 0), (0, True), [0, 0], (0, 0, 0),
        (0, -1), (-1, 0), (99, 0), (0, 99), ("0", 0), (0, None), (0, (0,)), ((0, 0),), [(0, 0)], [[0, 0]],
        [(0, 0), None], [(0, 0), (True, 0)], (0, 0, 0, 0), [(0, 0, 0, 0)], "of", ("of",), ("of", 1), ("of", 1, 0),
        ("do", "a"), ("done", 0, "a", 1), Thing(), Thing, len, 1j, range(2), Picture([[]]), iter([]),
    ]


class Case(unittest.TestCase):
    """A test that asks by position and by name, and twice."""

    def ask(self, function, **named):
        """What a call returns, which is the same by position, by name, and with changed arguments brought back."""
        passed = repr(named)
        first = function(*list(named.values()))
        told = copy.deepcopy(first)
        spoil(first)
        second = function(**named)
        self.assertEqual(repr(told), repr(second))
        self.assertEqual(told, second)
        self.assertEqual(repr(named), passed)
        return second

    def refuse(self, wanted, told, function, **named):
        """That a call is refused by an error of this class, with what it keeps: a dict from attributes to values."""
        passed = repr(named)
        for keywords in (False, True):
            with self.assertRaises(wanted) as caught:
                if keywords:
                    function(**named)
                else:
                    function(*list(named.values()))
            self.assertIs(type(caught.exception), wanted)
            for name, value in told.items():
                kept = getattr(caught.exception, name)
                self.assertIs(type(kept), type(value))
                self.assertEqual(kept, value)
        self.assertEqual(repr(named), passed)

    def yes_or_no(self, function, **named):
        """What a question says, which is a bool, by position and by name."""
        passed = repr(named)
        first = function(*list(named.values()))
        second = function(**named)
        self.assertIs(type(first), bool)
        self.assertIs(first, second)
        self.assertEqual(repr(named), passed)
        return first

    def never(self, function, values, **named):
        """That a question, of a last argument `value`, says False to all these values."""
        for value in values:
            self.assertIs(function(*list(named.values()), value), False, value)
            self.assertIs(function(**named, value=value), False, value)


def spoil(value):
    """Change a value that was told as far as it can be changed."""
    if isinstance(value, list):
        for part in value:
            spoil(part)
        value.append("spoilt")
    elif isinstance(value, tuple):
        for part in value:
            spoil(part)
    elif isinstance(value, dict):
        for part in value.values():
            spoil(part)
        value["spoilt"] = True


class Dice:
    """Numbers that look thrown, the same in each run."""

    def __init__(self, seed):
        self.now = seed * 7919 + 17

    def below(self, many):
        self.now = (self.now * 6364136223846793005 + 1442695040888963407) % 2 ** 64
        return (self.now >> 33) % many

    def one_of(self, values):
        return values[self.below(len(values))]


def some_rows(seed, houses, events, texts="ab"):
    """Rows of a picture with so many houses and events, made as a line would make them."""
    dice = Dice(seed)
    rows = [[] for _ in range(houses)]
    waiting = []
    letters = 0
    while sum(len(row) for row in rows) < events:
        house = dice.below(houses)
        choice = dice.below(5)
        mine = [letter for letter, to in waiting if to == house]
        if choice < 2 and mine:
            letter = dice.one_of(mine)
            waiting = [pair for pair in waiting if pair[0] != letter]
            rows[house].append(("hear", letter))
        elif choice < 4 and houses > 1:
            to = dice.one_of([other for other in range(houses) if other != house])
            rows[house].append(("say", letters * 3, to, dice.one_of(texts)))
            waiting.append((letters * 3, to))
            letters += 1
        else:
            rows[house].append(("do", dice.one_of(texts)))
    return rows


def small_pictures():
    """Small pictures of one to six houses, of which all lines can be tried."""
    found = [Picture([[]]), Picture([[], []]), Picture([[("do", "")], []])]
    for seed in range(42):
        houses = 1 + seed % 6
        events = (3, 6, 7, 6, 5, 5)[houses - 1] - seed // 6 % 2
        found.append(Picture(some_rows(seed, houses, events)))
    return found


def talkative_pictures(many=30):
    """Small pictures of two to four houses in which at least three letters are heard."""
    found, seed = [], 1000
    while len(found) < many:
        seed += 1
        rows = some_rows(seed, 2 + seed % 3, 8)
        if sum(what[0] == "hear" for row in rows for what in row) >= 3:
            found.append(Picture(rows))
    return found


def grid(houses, events):
    """A picture of so many houses, each with so many events, without letters."""
    return Picture([[("do", "a")] * events for _ in range(houses)])


def full_picture():
    """A picture of six houses and 120 events: letters go round, and some are never heard."""
    rows = some_rows(5, 6, 120)
    return Picture(rows)


def all_events(rows):
    return [(house, place) for house, row in enumerate(rows) for place in range(len(row))]


def said_by(rows, letter):
    for house, place in all_events(rows):
        if rows[house][place][:2] == ("say", letter):
            return (house, place)
    return None


def next_to(rows, one, other):
    """Whether a chain can go from the one event straight to the other one."""
    if other == (one[0], one[1] + 1):
        return True
    what = rows[other[0]][other[1]]
    return what[0] == "hear" and said_by(rows, what[1]) == one


def ahead_pairs(rows):
    """All pairs of events of which the one is ahead of the other one."""
    events = all_events(rows)
    before = {}

    def all_before(event):
        if event not in before:
            straight = [one for one in events if next_to(rows, one, event)]
            before[event] = set(straight).union(*[all_before(one) for one in straight])
        return before[event]

    return {(one, event) for event in events for one in all_before(event)}


def try_lines(rows):
    """All lines, sorted, by trying all."""
    pairs = ahead_pairs(rows)
    found = []

    def go(done, line):
        if len(line) == sum(len(row) for row in rows):
            found.append(line)
        for house, row in enumerate(rows):
            event = (house, done[house])
            if done[house] < len(row) and all(
                    one[1] < done[one[0]] for one, other in pairs if other == event):
                go(done[:house] + [done[house] + 1] + done[house + 1:], line + [house])

    go([0] * len(rows), [])
    return found


def try_cuts(rows):
    """All cuts, sorted, by trying all."""
    pairs = ahead_pairs(rows)
    found = []
    for cut in itertools.product(*[range(len(row) + 1) for row in rows]):
        if all(one[1] < cut[one[0]] for one, other in pairs if other[1] < cut[other[0]]):
            found.append(cut)
    return found


def is_listy(value):
    return isinstance(value, (list, tuple))


def is_int(value):
    return type(value) is int


def is_pair(value):
    """Whether a value is a tuple of two whole numbers, neither True nor False."""
    return type(value) is tuple and len(value) == 2 and is_int(value[0]) and is_int(value[1])


def is_event_of(rows, value):
    return is_pair(value) and value in all_events(rows)


def line_fault(rows, lines, value):
    """Whether a value is one of these lines, all that there are; if not, the position that is told."""
    if not is_listy(value) or len(value) != sum(len(row) for row in rows):
        return False, None
    for k in range(len(value)):
        if not is_int(value[k]) or not any(list(value[:k + 1]) == line[:k + 1] for line in lines):
            return False, k
    return True, None


def variants(value):
    """Values that are much like a value, but changed in one place."""
    found = []
    if isinstance(value, bool):
        return [not value, int(value), None]
    if isinstance(value, int):
        found = [value + 1, value - 1, None, str(value), (value,)]
        return found + ([bool(value)] if value in (0, 1) else [])
    if isinstance(value, str):
        return [value + "x", value[:-1] + "B", value + "123456789", None, 0, (value,)]
    if isinstance(value, dict):
        keys = list(value)
        found = [list(value.items()), None, {**value, "more": 0}]
        for key in keys:
            found.append({other: value[other] for other in keys if other != key})
            found += [{**value, key: part} for part in variants(value[key])]
            for part in variants(key):
                if hash_of(part):
                    found.append({(part if other == key else other): value[other] for other in keys})
        return found
    if isinstance(value, (list, tuple)):
        same, other = (list, tuple) if isinstance(value, list) else (tuple, list)
        parts = list(value)
        found = [other(parts), same(parts + [None]), same(parts[::-1]), same(parts + parts), None, {}]
        for k in range(len(parts)):
            found.append(same(parts[:k] + parts[k + 1:]))
            found.append(same(parts[:k + 1] + parts[k:]))
            found.append(same(parts[:k] + parts[k:k + 2][::-1] + parts[k + 2:]))
            found += [same(parts[:k] + [part] + parts[k + 1:]) for part in variants(parts[k])]
        return found
    return [None, 0]


def hash_of(value):
    """Whether a value can be a key of a dict."""
    try:
        hash(value)
    except TypeError:
        return False
    return True


def walk(rows, line):
    """The cuts that a line passes, and its events."""
    done = [0] * len(rows)
    cuts, events = [tuple(done)], []
    for house in line:
        events.append((house, done[house]))
        done[house] += 1
        cuts.append(tuple(done))
    return cuts, events

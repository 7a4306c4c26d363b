"""[94], [95]: logs and their texts, good beginnings; steps that touch, alike runs, differences."""

import itertools
import re
import unittest

from desked import own_rows
from oneshelf.errors import InvalidChange, InvalidChanges, InvalidRun, InvalidText, TooMany
from oneshelf.log import (Log, are_alike, are_exchanges_between, difference, exchanges_between, is_difference,
                          least_alike)
from oneshelf.rules import Rule
from oneshelf.trees import Tree
from support import Case, Dice, is_int, is_listy, junk, variants
from walked import Walk, some_rules, some_run, walk_run

CHANGE = ("write [0-7] [a-z0-9]{1,7}|read [0-7]|at [0-7] [0-4]|stop [0-7]|lose [0-4]|note [0-4] (0|[1-9][0-9]*)")
GOOD = ["read 0", "write 7 1234567", "at 3 4", "stop 0", "lose 4", "note 0 0", "note 4 12345678901234567890"]
WRONG = ["", " ", "read", "read 8", "read  0", "read 0 ", " read 0", "read 00", "read -1", "read x", "Read 0", "write 0",
         "write 0 ", "write 0 -", "write 0 12345678", "write 0 A", "write 0 a b", "at 0", "at 0 5", "at 8 0", "stop",
         "lose 5", "note 5 0", "note 0", "note 0 01", "note 0 -1", "note 0 0 0", "undo", "redo", "cut", "holds 0", "may 0",
         "without 0", "perhaps a", "surely a", "back 0", "read 0\n", "read\n0", "read 0\nread 0", "1 read 0"]


def text_of(changes):
    return "".join(f"{k} {change}\n" for k, change in enumerate(changes, 1))


def own_good(text):
    """The changes of the good beginning, by trying each number of lines."""
    found = []
    for many in range(1, 301):
        lines = text.split("\n")[:many]
        changes = [line.partition(" ")[2] for line in lines]
        if not all(re.fullmatch(CHANGE, change) for change in changes) or not text.startswith(text_of(changes)):
            return found
        found = changes
        if len(lines) < many:
            return found
    return found


class TestLog(Case):
    def test_parts(self):
        for changes in ([], GOOD, GOOD * 3, GOOD[2:5]):
            for log in (Log(changes), Log(changes=tuple(changes))):
                self.assertEqual(self.ask(log.lines), changes)
                self.assertEqual(log.text(), text_of(changes))
                self.assertEqual(len(log), len(changes))
                self.assertEqual(repr(log), f"Log({changes!r})")
                for value in GOOD + WRONG + junk():
                    self.assertIs(value in log, type(value) is str and value in changes)
        self.assertEqual((Log().lines(), Log() == Log([])), ([], True))
        self.assertEqual(repr(Log(["read 0"])), "Log(['read 0'])")

    def test_equality(self):
        logs = [Log(), Log(GOOD), Log(GOOD[::-1]), Log(GOOD[:1]), Log(GOOD[:1] * 2)]
        for one in logs:
            for value in junk() + [one.lines(), one.text(), repr(one)]:
                self.assertIs(one == value, False)
            for other in logs:
                self.assertIs(one == other, repr(one) == repr(other))
                self.assertIs(one != other, repr(one) != repr(other))

    def test_wrong_changes(self):
        for value in WRONG + junk():
            if type(value) is not str or value in WRONG or not re.fullmatch(CHANGE, value):
                for at in range(3):
                    self.refuse(InvalidChanges, {"position": at}, Log, changes=GOOD[:at] + [value] + GOOD + [None])
                self.refuse(InvalidChange, {"value": value}, lambda other: Log(GOOD) + other, other=value)
        for value in junk():
            if not is_listy(value):
                self.refuse(InvalidChanges, {"position": None}, Log, changes=value)

    def test_one_more_change(self):
        log = Log(GOOD)
        for change in GOOD:
            self.assertEqual((log + change).lines(), GOOD + [change])
        self.assertEqual(log, Log(GOOD))

    def test_three_hundred_changes(self):
        many = (GOOD * 50)[:300]
        log = Log(many)
        self.assertEqual((len(log), len(Log(many[:299]) + "read 0")), (300, 300))
        told = {"what": "changes", "limit": 300}
        self.refuse(TooMany, told, Log, changes=many + ["read 0"])
        self.refuse(InvalidChanges, {"position": 300}, Log, changes=many + ["read 8"])
        self.refuse(TooMany, told, lambda other: log + other, other="read 0")
        self.refuse(InvalidChange, {"value": "read 8"}, lambda other: log + other, other="read 8")
        self.assertEqual(Log.of_text(log.text()), log)
        self.assertEqual(Log.torn(log.text() + "301 read 0\n"), log)
        self.refuse(InvalidText, {"line": 301}, Log.of_text, text=log.text() + "301 read 0\n")

    def test_texts(self):
        seen = set()
        for k in range(40):
            dice = Dice(k)
            text = text_of([dice.one_of(GOOD) for _ in range(k % 12)])
            self.assertEqual(Log.of_text(text=text).text(), text)
            for _ in range(40):
                at = dice.below(len(text) + 1)
                spoilt = [text[:at], text[:at] + dice.one_of("0123456789 \nab") + text[at:], text[:at] + text[at + 1:],
                          text + dice.one_of(["x", "\n", " ", "1 read 0\n", f"{k % 12 + 1} read 0"])][dice.below(4)]
                good = own_good(spoilt)
                self.assertEqual(Log.torn(text=spoilt).lines(), good)
                seen.add(text_of(good) == spoilt)
                if text_of(good) == spoilt:
                    self.assertEqual(Log.of_text(spoilt), Log(good))
                else:
                    self.refuse(InvalidText, {"line": len(good) + 1}, Log.of_text, text=spoilt)
        self.assertEqual(seen, {True, False})

    def test_edges_of_texts(self):
        for text, many in (("", 0), ("1 read 0\n", 1), ("1 read 0", 0), ("1 read 0\n2 read 0", 1), ("2 read 0\n", 0),
                           ("1 read 0\n3 read 0\n", 1), ("01 read 0\n", 0), ("1  read 0\n", 0), ("1 read 0\n\n", 1),
                           ("\n1 read 0\n", 0), ("1 read 8\n2 read 0\n", 0), ("1 read 0\n1 read 0\n", 1), ("1\n", 0),
                           ("1 undo\n", 0), ("1 lose 4\n2 lose 5\n", 1)):
            self.assertEqual(len(Log.torn(text)), many, text)
            if Log.torn(text).text() != text:
                self.refuse(InvalidText, {"line": many + 1}, Log.of_text, text=text)
        self.assertEqual(Log.of_text(""), Log())
        for value in junk():
            if type(value) is not str:
                self.refuse(InvalidText, {"line": 1}, Log.of_text, text=value)
                self.refuse(InvalidText, {"line": 1}, Log.torn, text=value)

    def test_what_was_passed_is_changed(self):
        changes = list(GOOD)
        log = Log(changes)
        changes.append("read 1")
        log.lines().append("read 1")
        self.assertEqual(log.lines(), GOOD)


def own_marks(rule, run):
    """For each step its hand, its house, and whether it begins or ends a call."""
    walk = walk_run(rule, run)
    edges = {call["begin"] for call in walk.calls} | {call["end"] for call in walk.calls}
    return [(None if step[0] == "lose" else step[1], step[-1] if step[0] in ("at", "lose") else None, k in edges)
            for k, step in enumerate(run)]


def touch(one, other):
    return (one[0] is not None and one[0] == other[0]) or (one[1] is not None and one[1] == other[1]) or (
        one[2] and other[2])


def all_alike(rule, run, limit=400):
    """The dict from all runs to which exchanges lead to how few do; None if there are too many."""
    first = tuple(run)
    steps, waiting = {first: 0}, [first]
    for now in waiting:
        marks = own_marks(rule, now)
        for k in range(len(now) - 1):
            if not touch(marks[k], marks[k + 1]):
                later = now[:k] + (now[k + 1], now[k]) + now[k + 2:]
                if later not in steps:
                    steps[later] = steps[now] + 1
                    waiting.append(later)
                    if len(steps) > limit:
                        return None
    return steps


def numbered(run):
    return [(step, list(run[:k]).count(step)) for k, step in enumerate(run)]


def judge_exchanges(rule, one, other, value):
    if not is_listy(value):
        return False
    now = tuple(one)
    for k in value:
        marks = own_marks(rule, now)
        if not is_int(k) or not 0 <= k < len(now) - 1 or touch(marks[k], marks[k + 1]):
            return False
        now = now[:k] + (now[k + 1], now[k]) + now[k + 2:]
    return now == tuple(other)


def judge_numbered(value, steps):
    if type(value) is not tuple or len(value) != 2 or type(value[0]) is not tuple or not is_int(value[1]):
        return False
    return all(type(part) in (int, str) for part in value[0]) and value in steps


def judge_difference(rule, one, other, value):
    ones, others = numbered(one), numbered(other)
    if type(value) is not tuple or len(value) != 2:
        return False
    if value[1] is None:
        return judge_numbered(value[0], ones) != judge_numbered(value[0], others)
    if not all(judge_numbered(part, ones) and judge_numbered(part, others) for part in value):
        return False
    marks = own_marks(rule, one)
    former, later = ones.index(value[0]), ones.index(value[1])
    return former < later and others.index(value[0]) > others.index(value[1]) and touch(marks[former], marks[later])


def some_pairs(many=80):
    """Tuples of rules and two runs, of which the second one may be alike to the first one."""
    found = []
    for k, rule in enumerate(some_rules(many)):
        dice = Dice(k)
        run = some_run(rule, 3 * k, 4 + k % 7, 2 + k % 4, k % 3)
        others = [run, some_run(rule, 3 * k + 1, 4 + k % 7, 3), run[:-1]]
        steps = all_alike(rule, run)
        if steps:
            others += [list(dice.one_of(sorted(steps, key=repr))) for _ in range(3)]
        for other in itertools.islice(itertools.permutations(run), 0, 40, 7):
            if type(walk_run(rule, other)) is Walk:
                others.append(list(other))
        found += [(rule, run, other) for other in others] + [(rule, run[:-1], run)]
    return found


class TestAlike(Case):
    def test_the_document(self):
        rule = Rule(2, Tree.of(1, 0, 1), Tree.of(2, 0, 1))
        run = [("write", 0, "a"), ("at", 0, 0), ("read", 1), ("at", 1, 1)]
        self.assertEqual(least_alike(rule, [run[0], run[2], run[1], run[3]]), run)
        self.assertEqual(difference(rule, run, run[:3]), ((("at", 1, 1), 0), None))

    def test_by_going_through_all_exchanges(self):
        seen = set()
        for rule, one, other in some_pairs():
            steps = all_alike(rule, one)
            if steps is None:
                continue
            alike = tuple(other) in steps
            told = {"rule": rule, "one": one, "other": other}
            self.assertIs(self.yes_or_no(are_alike, **told), alike)
            way, unlike = self.ask(exchanges_between, **told), self.ask(difference, **told)
            seen.add((alike, one == other))
            if alike:
                self.assertEqual(len(way), steps[tuple(other)])
                self.assertTrue(judge_exchanges(rule, one, other, way))
                self.assertIs(self.yes_or_no(are_exchanges_between, **told, value=way), True)
                self.assertIsNone(unlike)
                self.check_same(rule, one, other)
            else:
                self.assertIsNone(way)
                self.assertTrue(judge_difference(rule, one, other, unlike))
                self.assertIs(self.yes_or_no(is_difference, **told, value=unlike), True)
        self.assertEqual(seen, {(True, True), (True, False), (False, False)})

    def check_same(self, rule, one, other):
        """That alike runs hold the same, have the same history and the same picture."""
        walks = [walk_run(rule, run) for run in (one, other)]
        self.assertEqual(walks[0].held, walks[1].held)
        self.assertEqual(walks[0].entries, walks[1].entries)
        self.assertEqual(own_rows(rule, one)[0], own_rows(rule, other)[0])

    def test_least_alike(self):
        for k, rule in enumerate(some_rules(120)):
            run = some_run(rule, 7 * k, 3 + k % 9, 2 + k % 4, k % 3)
            steps = all_alike(rule, run)
            if steps is not None:
                self.assertEqual(self.ask(least_alike, rule=rule, run=run), list(min(steps)))
                self.assertEqual(least_alike(rule, tuple(run)), list(min(steps)))

    def test_what_are_exchanges_and_differences(self):
        seen = set()
        for rule, one, other in some_pairs(30):
            way, unlike = exchanges_between(rule, one, other), difference(rule, one, other)
            values = [[], [0], (0, 0), [0, 1], [1, 0]] + junk()
            if way is not None:
                values += variants(way) + [way + [k, k] for k in range(3)]
            for value in values:
                fine = judge_exchanges(rule, one, other, value)
                self.assertIs(are_exchanges_between(rule, one, other, value), fine, value)
                seen.add(("way", fine))
            pairs = [(former, later) for former in numbered(one) for later in numbered(other)]
            values = junk() + pairs[::3] + [(told, None) for told in numbered(one) + numbered(other)]
            for value in values + ([] if unlike is None else variants(unlike)):
                fine = judge_difference(rule, one, other, value)
                self.assertIs(is_difference(rule, one, other, value), fine, value)
                seen.add(("difference", fine))
        self.assertEqual(len(seen), 4)

    def test_what_touches(self):
        rule = Rule(2, Tree.of(2, 0, 1), Tree.of(2, 0, 1), "many", "never")
        begun = [("read", 0), ("read", 1), ("read", 2)]
        for one, other, alike in ((("at", 0, 0), ("at", 1, 1), True), (("at", 0, 0), ("at", 1, 0), False),
                                  (("at", 0, 0), ("lose", 0), False), (("at", 0, 0), ("lose", 1), True),
                                  (("lose", 0), ("lose", 1), True), (("stop", 0), ("at", 1, 0), True),
                                  (("stop", 0), ("stop", 1), True), (("stop", 0), ("read", 3), True),
                                  (("at", 0, 0), ("read", 3), True), (("read", 4), ("read", 3), False),
                                  (("read", 4), ("write", 3, "a"), False), (("lose", 1), ("read", 3), True)):
            runs = [begun + [one, other], begun + [other, one]]
            self.assertIs(are_alike(rule, *runs), alike, (one, other))
            self.assertIs(are_alike(rule, *runs[::-1]), alike, (one, other))
        both = begun + [("at", 0, 0), ("at", 1, 1)]
        ends = [("at", 0, 1), ("at", 1, 0)]
        # Either of both ends its call, so they touch.
        self.assertIs(are_alike(rule, both + ends, both + ends[::-1]), False)
        self.assertIs(are_alike(rule, both + [ends[0], ("read", 3)], both + [("read", 3), ends[0]]), False)
        self.assertIs(are_alike(rule, both + [ends[0], ("lose", 0)], both + [("lose", 0), ends[0]]), True)
        always = Rule(2, Tree.of(2, 0, 1), Tree.of(2, 0, 1), "many", "always")
        self.assertIs(are_alike(always, both + ends, both + ends[::-1]), True)

    def test_steps_that_look_the_same(self):
        rule = Rule(2, Tree(0), Tree(0), "one", "never")
        run = [("lose", 0), ("lose", 0), ("read", 1), ("at", 1, 0), ("read", 1), ("at", 1, 0), ("lose", 1)]
        self.assertEqual(difference(rule, run, run[1:]), ((("lose", 0), 1), None))
        self.assertIs(is_difference(rule, run, run[1:], ((("lose", 0), 0), None)), False)
        self.assertIs(is_difference(rule, run[1:], run, ((("lose", 0), 1), None)), True)
        self.assertEqual(least_alike(rule, run), [("lose", 0), ("lose", 0), ("lose", 1)] + run[2:6])

    def test_four_thousand_exchanges(self):
        rule = Rule(2, Tree(0), Tree(0), "one", "never")
        one = [("lose", 0)] * 40 + [("lose", 1)] * 100
        self.assertEqual(len(exchanges_between(rule, one, one[::-1])), 4000)
        self.assertTrue(are_exchanges_between(rule, one, one[::-1], exchanges_between(rule, one, one[::-1])))
        more = [("lose", 0)] * 41 + [("lose", 1)] * 98
        self.refuse(TooMany, {"what": "exchanges", "limit": 4000}, exchanges_between, rule=rule, one=more,
                    other=more[::-1])
        self.assertIs(are_alike(rule, more, more[::-1]), True)
        self.assertIsNone(exchanges_between(rule, more, more[:-1]))
        self.assertEqual(least_alike(rule, one[::-1]), one)
        half = [("lose", 0)] * 100 + [("lose", 1)] * 100
        self.assertIs(are_alike(rule, half, half[::-1]), True)
        # Those who are asked of any list judge it, however long it is.
        way = [k for goal in range(98) for k in range(40 + goal, goal - 1, -1)]
        self.assertEqual(len(way), 98 * 41)
        self.assertIs(are_exchanges_between(rule, more, more[::-1], way), True)

    def test_errors(self):
        for rule in some_rules(6):
            run = some_run(rule, 5, 6)
            for value in junk() + variants(run)[:30] + [[("lose", 0)] * 201]:
                position = walk_run(rule, value)
                if type(position) is Walk:
                    continue
                for function, rest in ((are_alike, {}), (exchanges_between, {}), (difference, {}),
                                       (are_exchanges_between, {"value": None}), (is_difference, {"value": None})):
                    told = {"position": position}
                    self.refuse(InvalidRun, told, function, rule=rule, one=value, other=None, **rest)
                    self.refuse(InvalidRun, told, function, rule=rule, one=run, other=value, **rest)
                self.refuse(InvalidRun, {"position": position}, least_alike, rule=rule, run=value)


if __name__ == "__main__":
    unittest.main()

"""[51], [52]: histories, their calls and parts, things, and what calls answer in a sequence."""

import unittest

from oneshelf.errors import (InvalidEntries, InvalidEntry, InvalidNames, InvalidNumber, InvalidNumbers, InvalidThings,
                             TooMany)
from oneshelf.histories import History, answers
from oneshelf.kinds import Kind
from recalled import FLAG, histories, judge_entries, judge_entry, judge_name, judge_text, try_calls, walk_numbers
from support import Case, Dice, hash_of, is_int, is_listy, junk, variants

MANY = {"what": "entries", "limit": 240}
READ = ("call", 1, "s", ("read",))


def wrong_entries():
    return junk() + [
        ("call",), ("call", 0), ("call", 0, "s"), ("call", 10, "s", ("read",)), ("call", -1, "s", ("read",)),
        ("call", True, "s", ("read",)), ("call", False, "s", ("read",)), ("call", 0, "", ("read",)),
        ("call", 0, "S", ("read",)), ("call", 0, "1s", ("read",)), ("call", 0, "s", ["read"]), ("call", 0, "s", "read"),
        ("call", 0, "s", ("read", "")), ("call", 0, "s", ("write",)), ("call", 0, "s", ("write", "A")),
        ("call", 0, "s", ("write", 0)), ("call", 0, "s", ("write", "123456789")), ("call", 0, "s", ("put", "a")),
        ("call", 0, "s", ""), ("call", 0, "s", "9a"), ("call", 0, "s", None), ["call", 0, "s", ("read",)],
        ("call", 0, "s", ("read",), None), ("call", 0, None, ("read",)), ("answer", 0), ("answer", 0, 100),
        ("answer", 0, 99), ("answer", 0, -1), ("answer", 0, True), ("answer", 0, None), ("answer", 0, "A"),
        ("answer", 0, ("a",)), ("answer", 0, "a", "a"), ("answer", 10, ""), ("answer", False, ""), ["answer", 0, ""],
        ("call", 9, "s2345678", ("write", "")), ("call", 0, "s23456789", ("read",)), ("call", 0, "s", "get"),
        ("call", 0, "s", ()), ("call", 0, "s", (b"read",)), (b"call", 0, "s", ("read",)), ("calls", 0, "s", ("read",))]


class TestHistory(Case):
    def test_the_document(self):
        some = History([("call", 0, "s", ("write", "a")), READ, ("answer", 1, "a")])
        some = some + READ + ("answer", 1, "")
        self.assertEqual([some.calls()[1], self.ask(answers, history=some, things={"s": ""}, numbers=[1, 0, 2])],
                         [(1, "s", ("read",), 1, 2, "a"), ["", "", "a"]])

    def test_parts(self):
        for entries, _ in histories(80, 9):
            calls = try_calls(entries)
            for passed in (entries, tuple(entries)):
                history = History(passed)
                self.assertEqual(self.ask(history.entries), entries)
                self.assertEqual(self.ask(history.calls), calls)
                self.assertEqual(self.ask(history.hands), sorted({call[0] for call in calls}))
                self.assertEqual(self.ask(history.names), sorted({call[1] for call in calls}))
                self.assertEqual(len(history), len(calls))
                self.assertEqual(repr(history), f"History({entries})")
                self.assertEqual(eval(repr(history)), history)

    def test_wrong_entries(self):
        values = [None, 0, "a", {}, {0: READ}, [[]], (None,), [READ, READ], [("answer", 0, "")], [READ, ("answer", 0, "")],
                  [READ, ("answer", 1, ""), ("answer", 1, "")], [READ, ("call", 2, "s", ("read",)), ("answer", 1, 5)]]
        values += [[entry] for entry in wrong_entries()] + [[READ, entry, None] for entry in wrong_entries()]
        for entries, _ in histories(24):
            values += variants(entries)[:150]
        for value in values:
            good, position = judge_entries(value)
            if good:
                self.assertEqual(History(value).entries(), list(value))
            else:
                self.refuse(InvalidEntries, {"position": position}, History, entries=value)

    def test_any_value_is_no_history(self):
        for value in junk():
            good, position = judge_entries(value)
            if not good:
                self.refuse(InvalidEntries, {"position": position}, History, entries=value)

    def test_two_hundred_and_forty(self):
        self.assertIs(type(History.MOST_ENTRIES), int)
        self.assertEqual((History.MOST_ENTRIES, History([]).MOST_ENTRIES), (240, 240))
        full = [READ, ("answer", 1, "a")] * 120
        history = History(full)
        self.assertEqual((len(history), len(history.entries())), (120, 240))
        self.refuse(TooMany, MANY, History, entries=full + [READ])
        self.refuse(InvalidEntries, {"position": 241}, History, entries=full + [READ, READ])
        with self.assertRaises(TooMany) as caught:
            history + READ
        self.assertEqual((caught.exception.what, caught.exception.limit), ("entries", 240))
        with self.assertRaises(InvalidEntry):
            history + ("answer", 1, "a")
        self.assertEqual(History(full[:-1]) + full[-1], history)

    def test_one_entry_more(self):
        for entries, _ in histories(40):
            history = History(entries)
            for entry in wrong_entries() + entries:
                good = judge_entry(entry) and judge_entries(entries + [entry])[0]
                if good:
                    more = history + entry
                    self.assertIs(type(more), History)
                    self.assertEqual(more.entries(), entries + [entry])
                    self.assertEqual(more.calls(), try_calls(entries + [entry]))
                else:
                    with self.assertRaises(InvalidEntry) as caught:
                        history + entry
                    self.assertIs(type(caught.exception), InvalidEntry)
                    self.assertIs(type(caught.exception.value), type(entry))
                    self.assertEqual(caught.exception.value, entry)
                self.assertEqual(history.entries(), entries)
                self.assertEqual(history.calls(), try_calls(entries))

    def test_beginnings(self):
        for entries, _ in histories(30):
            history = History(entries)
            for many in range(len(entries) + 1):
                self.assertEqual(self.ask(history.beginning, many=many), History(entries[:many]))
            for value in junk() + [len(entries) + 1]:
                if not (is_int(value) and 0 <= value <= len(entries)):
                    self.refuse(InvalidNumber, {"value": value}, history.beginning, many=value)

    def test_parts_about_names(self):
        for entries, _ in histories(50):
            history, calls = History(entries), try_calls(entries)
            for names in ([], ["s"], ["t"], ["t", "s"], ["u", "s"], ["u"], ("s",)):
                kept = [position for call in calls if call[1] in names for position in call[3:5]]
                self.assertEqual(self.ask(history.about, names=names),
                                 History([entry for position, entry in enumerate(entries) if position in kept]))
            for value in junk() + [["s", "s"], ["s", "S"], ["", "s"], ["s", None], "s", {"s": 0}, ["t", "u", "t"], (True,)]:
                fault = None
                if is_listy(value):
                    wrong = [k for k in range(len(value)) if not judge_name(value[k]) or value[k] in value[:k]]
                    fault = wrong[0] if wrong else -1
                if fault != -1:
                    self.refuse(InvalidNames, {"position": fault}, history.about, names=value)

    def test_parts_of_calls(self):
        for seed, (entries, _) in enumerate(histories(50, 7)):
            history, calls, dice = History(entries), try_calls(entries), Dice(seed)
            for _ in range(5):
                numbers = [k for k in range(len(calls)) if dice.below(2)]
                kept = [position for k in numbers for position in calls[k][3:5]]
                right = History([entry for position, entry in enumerate(entries) if position in kept])
                self.assertEqual(self.ask(history.only, numbers=numbers), right)
                self.assertEqual(history.only(tuple(numbers[::-1])), right)
            for value in junk() + [[len(calls)], [0, 0], [0, len(calls)], [-1], [True], [0, False]]:
                fault = number_fault(len(calls), value)
                if fault != -1:
                    self.refuse(InvalidNumbers, {"position": fault}, history.only, numbers=value)

    def test_what_was_passed_is_changed(self):
        entries = [READ, ("answer", 1, "a")]
        history = History(entries)
        entries.append(READ)
        entries[0] = None
        for told in (history.entries(), history.calls(), history.hands(), history.names()):
            told.clear()
        self.assertEqual((history.entries(), len(history)), ([READ, ("answer", 1, "a")], 1))
        self.assertEqual((history.hands(), history.names(), len(history.calls())), ([1], ["s"], 1))

    def test_equality(self):
        some = [History(entries) for entries, _ in histories(30)]
        for one in some:
            for value in junk() + [one.entries()]:
                self.assertIs(one == value, False)
            for other in some:
                self.assertIs(one == other, one.entries() == other.entries())
                self.assertIs(one != other, one.entries() != other.entries())


def number_fault(many, value):
    """The position that is told of a value that is no list of unlike numbers of calls; -1 if it is one."""
    if not is_listy(value):
        return None
    wrong = [k for k in range(len(value)) if not (is_int(value[k]) and 0 <= value[k] < many) or value[k] in value[:k]]
    return wrong[0] if wrong else -1


def judge_things(entries, value):
    """Whether a value is things of a history."""
    if type(value) is not dict:
        return False
    for name, first in value.items():
        if not judge_name(name):
            return False
        if type(first) is tuple:
            if len(first) != 2 or type(first[0]) is not Kind or not is_int(first[1]):
                return False
            if not 0 <= first[1] < first[0].states:
                return False
        elif not judge_text(first):
            return False
    for _, name, call, _, _, _ in try_calls(entries):
        if name not in value:
            return False
        if (type(value[name]) is str) is not (type(call) is tuple):
            return False
        if type(call) is str and call not in value[name][0].calls():
            return False
    return True


def some_wrong_things(things):
    """Values that are much like things, and others."""
    found = junk() + [{**things, "more": "a"}, {**things, "more": (FLAG, 0)}, {**things, "More": "a"}, {**things, 0: "a"},
                      {**things, "": ""}, {**things, "more": None}, {**things, "more": (FLAG, 2)}, list(things.items())]
    for name in things:
        rest = {other: things[other] for other in things if other != name}
        found.append(rest)
        for first in ("", "abc", "A", None, 0, (FLAG, 0), (FLAG, 1), (FLAG, 2), (FLAG, True), (FLAG, -1), [FLAG, 0], FLAG,
                      (FLAG,), (FLAG, 0, 0), ("FLAG", 0), (Kind({"add": [(0, 0)], "see": [(1, 0)]}), 0), ("a", "b"), ()):
            found.append({name: first, **rest})
    return found


class TestAnswers(Case):
    def test_by_walking(self):
        for seed, (entries, things) in enumerate(histories(70, 8)):
            dice, many = Dice(seed), len(try_calls(entries))
            for _ in range(4):
                numbers = [k for k in range(many) if dice.below(3)]
                for k in range(len(numbers)):
                    at = dice.below(len(numbers))
                    numbers[k], numbers[at] = numbers[at], numbers[k]
                told = self.ask(answers, history=History(entries), things=things, numbers=numbers)
                self.assertEqual(told, walk_numbers(entries, things, numbers))
                self.assertEqual(answers(History(entries), things, tuple(numbers)), told)

    def test_wrong_things(self):
        for entries, things in histories(16):
            for value in some_wrong_things(things):
                if judge_things(entries, value):
                    self.assertEqual(answers(History(entries), value, []), [])
                else:
                    self.refuse(InvalidThings, {"value": value}, answers, history=History(entries), things=value,
                                numbers=None)

    def test_wrong_numbers(self):
        for entries, things in histories(20):
            many = len(try_calls(entries))
            for value in junk() + [[many], [0, 0], [-1], [0, True], [0, many], (0, 0)]:
                fault = number_fault(many, value)
                told = {"history": History(entries), "things": things, "numbers": value}
                if fault != -1:
                    self.refuse(InvalidNumbers, {"position": fault}, answers, **told)
                else:
                    self.assertEqual(self.ask(answers, **told), walk_numbers(entries, things, value))

    def test_keys_that_cannot_be_names(self):
        history = History([READ])
        for key in (True, 1, 0, None, (), ("s",), b"s", "S"):
            self.assertTrue(hash_of(key))
            self.refuse(InvalidThings, {"value": {key: "", "s": ""}}, answers, history=history,
                        things={key: "", "s": ""}, numbers=[0])


if __name__ == "__main__":
    unittest.main()

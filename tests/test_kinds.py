"""[47]: kinds, their states and calls, and what tells states apart."""

import itertools
import unittest

from oneshelf.errors import InvalidCalls, InvalidState, InvalidValues
from oneshelf.failures import UnknownCall
from oneshelf.kinds import Kind, led, telling
from support import Case, Dice, is_int, is_listy, junk, variants

FLAG = {"get": [(0, 0), (1, 1)], "set": [(7, 1), (7, 1)]}
LETTERS = "abcdefghijklmnopqrstuvwxyz"


def judge_name(value):
    return type(value) is str and 0 < len(value) <= 8 and value[0] in LETTERS and all(
        sign in LETTERS + "0123456789" for sign in value)


def judge_calls(value):
    """Whether a value makes a kind, and the name that is told."""
    if type(value) is not dict or not 1 <= len(value) <= 4 or not all(judge_name(name) for name in value):
        return False, None
    many = None
    for name in sorted(value):
        turns = value[name]
        if not is_listy(turns) or not 1 <= len(turns) <= 8 or many not in (None, len(turns)):
            return False, name
        many = len(turns)
        for turn in turns:
            if type(turn) is not tuple or len(turn) != 2 or not is_int(turn[0]) or not is_int(turn[1]):
                return False, name
            if not 0 <= turn[0] <= 99 or not 0 <= turn[1] < many:
                return False, name
    return True, None


def some_calls(many=40):
    """Calls of kinds of one to eight states and one to four calls, of few answers."""
    found = [FLAG, {"a": [(99, 0)]}, {"go": [(0, 1), (1, 0)]}, {"add": [(0, k + 1 if k < 7 else 7) for k in range(8)]},
             {"a": [(0, 0), (0, 0)], "b": [(1, 1), (1, 1)]}, {"a": [(0, min(k + 1, 7)) if k < 6 else (k, k) for k in
                                                                    range(8)], "z9": [(0, 0)] * 8},
             {name: [(0, (k * 3 + at) % 8) if k < 7 or at < 3 else (5, 0) for k in range(8)]
              for at, name in enumerate(("d", "c", "b1", "a"))}]
    for seed in range(many):
        dice = Dice(seed)
        states = 1 + seed % 8
        found.append({name: [(dice.below(2) if dice.below(5) == 0 else 0, dice.below(states)) for _ in range(states)]
                      for name in ("put", "a1", "longname", "zz")[:1 + dice.below(4)]})
    return found


def walk_calls(calls, state, names):
    answers = []
    for name in names:
        answer, state = calls[name][state]
        answers.append(answer)
    return answers, state


def try_telling(calls, one, other, longest):
    """The first of the shortest lists of calls that tell states apart, if none is longer than this."""
    for many in range(1, longest + 1):
        for names in itertools.product(sorted(calls), repeat=many):
            if walk_calls(calls, one, names)[0] != walk_calls(calls, other, names)[0]:
                return list(names)
    return None


def never_told(calls, one, other):
    """Whether no list of calls tells two states apart, by all pairs of states that they lead to."""
    pairs = {(one, other)}
    while True:
        more = {(calls[name][left][1], calls[name][right][1]) for left, right in pairs for name in calls} | pairs
        if more == pairs:
            return all(calls[name][left][0] == calls[name][right][0] for left, right in pairs for name in calls)
        pairs = more


class TestKind(Case):
    def test_parts(self):
        for calls in some_calls():
            turned = {name: tuple(calls[name]) for name in sorted(calls)[::-1]}
            kind = Kind(calls)
            self.assertEqual(kind, Kind(turned))
            self.assertEqual(kind.states, len(list(calls.values())[0]))
            self.assertEqual(self.ask(kind.calls), sorted(calls))
            table = {name: calls[name] for name in sorted(calls)}
            for one in (kind, Kind(turned)):
                self.assertEqual(repr(one), f"Kind({table})")
            self.assertEqual(eval(repr(kind)), kind)
            for name in calls:
                for state in range(kind.states):
                    self.assertEqual(self.ask(kind.after, state=state, call=name), calls[name][state])
        self.assertEqual(repr(Kind({"add": [(0, 1), (1, 0)]})), "Kind({'add': [(0, 1), (1, 0)]})")

    def test_wrong_calls(self):
        values = junk() + [
            {}, {"": [(0, 0)]}, {"A": [(0, 0)]}, {"1a": [(0, 0)]}, {"a": [(0, 0)], "B": None}, {"a": []}, {"a": {}},
            {"a": [(100, 0)]}, {"a": [(99, 0)]}, {"a": [(-1, 0)]}, {"a": [(0, 1)]}, {"a": [(0, -1)]}, {"a": [(0, 0)] * 9},
            {"a": [(0, 7)] * 8}, {"b": [(0, 0)], "a": [(0, 0), (0, 0)]}, {"b": None, "a": [(0, 0)]}, {"b": [], "a": []},
            {"b": [(0, 0)] * 2, "a": [(0, 0)] * 2, "c": [(0, 0)] * 3, "d": None}, {"a": [(True, 0)]}, {"a": [(0, False)]},
            {"a": [[0, 0]]}, {"a": [(0, 0, 0)]}, {"a": [(0,)]}, {"a": [(0, 0), (0, 1), (0, 2), None]},
            {True: [(0, 0)]}, {0: [(0, 0)]}, {None: [(0, 0)]}, {b"a": [(0, 0)]}, {"a b": [(0, 0)]}, {"a": "00"},
            {"b": [(0, 2)] * 2, "c": None, "a": [(0, 1)] * 2}, {"a2345678": [(0, 0)]}, {"a23456789": [(0, 0)]},
            {name: [(0, 0)] for name in "abcde"}, {name: [(0, 0)] for name in "abcd"}, [("a", [(0, 0)])]]
        for calls in some_calls(12):
            values += variants(calls)[:120]
        for value in values:
            good, name = judge_calls(value)
            if good:
                self.assertEqual(Kind(value).calls(), sorted(value))
            else:
                self.refuse(InvalidCalls, {"name": name}, Kind, calls=value)

    def test_wrong_states_and_calls(self):
        for calls in some_calls(9):
            kind = Kind(calls)
            for value in junk() + [kind.states, 8]:
                if not (is_int(value) and 0 <= value < kind.states):
                    self.refuse(InvalidState, {"value": value}, kind.after, state=value, call=None)
                    self.refuse(InvalidState, {"value": value}, led, kind=kind, state=value, calls=None)
                    self.refuse(InvalidState, {"value": value}, telling, kind=kind, one=value, other=99)
                    self.refuse(InvalidState, {"value": value}, telling, kind=kind, one=0, other=value)
                if not (type(value) is str and value in calls):
                    self.refuse(UnknownCall, {"value": value}, kind.after, state=0, call=value)
            for value in ("get ", "nothing", "GET", ["get"], ("get",)):
                self.refuse(UnknownCall, {"value": value}, kind.after, state=0, call=value)

    def test_what_was_passed_is_changed(self):
        calls = {"b": [(0, 1), (1, 0)], "a": [(0, 0), (0, 0)]}
        kind = Kind(calls)
        calls["b"][0] = (5, 0)
        calls["b"].append(None)
        del calls["a"]
        kind.calls().append("c")
        self.assertEqual(repr(kind), "Kind({'a': [(0, 0), (0, 0)], 'b': [(0, 1), (1, 0)]})")
        self.assertEqual(kind.calls(), ["a", "b"])

    def test_equality(self):
        kinds = [Kind(calls) for calls in some_calls()]
        for one in kinds:
            for value in junk() + [repr(one)]:
                self.assertIs(one == value, False)
            for other in kinds:
                self.assertIs(one == other, repr(one) == repr(other))
                self.assertIs(one != other, repr(one) != repr(other))


class TestLed(Case):
    def test_the_document(self):
        flag = Kind(FLAG)
        self.assertEqual([self.ask(led, kind=flag, state=0, calls=["get", "set", "get"]),
                          self.ask(telling, kind=flag, one=0, other=1)], [([0, 7, 1], 1), ["get"]])

    def test_by_walking(self):
        for seed, calls in enumerate(some_calls()):
            kind, dice = Kind(calls), Dice(seed)
            for state in range(kind.states):
                for many in (0, 1, 2, 5, 9):
                    names = [dice.one_of(sorted(calls)) for _ in range(many)]
                    told = self.ask(led, kind=kind, state=state, calls=names)
                    self.assertEqual(told, walk_calls(calls, state, names))
                    self.assertIs(type(told), tuple)
                    self.assertEqual(led(kind, state, tuple(names)), told)

    def test_wrong_lists(self):
        flag = Kind(FLAG)
        for value in junk() + [["get", "put"], ["put", None], ["get", "get", ["set"]], ("set", "get", 0), "get",
                               {"get": 0}, ["get", b"get"], [["get"]]]:
            wrong = [k for k, call in enumerate(value) if type(call) is not str or call not in FLAG] \
                if is_listy(value) else [None]
            if wrong:
                self.refuse(InvalidValues, {"position": wrong[0]}, led, kind=flag, state=0, calls=value)
            else:
                self.assertEqual(led(flag, 0, value), ([], 0))


class TestTelling(Case):
    def test_by_trying_all(self):
        seen = set()
        for calls in some_calls():
            kind = Kind(calls)
            for one in range(kind.states):
                for other in range(kind.states):
                    told = self.ask(telling, kind=kind, one=one, other=other)
                    self.assertIs(told is None, never_told(calls, one, other))
                    if told is not None:
                        seen.add(len(told))
                        if len(calls) ** len(told) <= 1024:
                            self.assertEqual(told, try_telling(calls, one, other, len(told)))
        self.assertLessEqual({1, 2, 3, 4, 5}, seen)

    def test_long_and_alike(self):
        line = Kind({"a": [(0, min(k + 1, 7)) if k < 6 else (k, k) for k in range(8)]})
        self.assertEqual(telling(line, 0, 1), ["a"] * 6)
        self.assertIsNone(telling(line, 3, 3))
        self.assertIsNone(telling(Kind({"a": [(0, 0), (0, 0)]}), 0, 1))


if __name__ == "__main__":
    unittest.main()

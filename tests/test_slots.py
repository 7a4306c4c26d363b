"""[77], [78]: slots, known calls, prefix, holes, being led, clashes; named calls, done once."""

import unittest

from balloted import some_council_run, some_councils, walk_council, Room
from oneshelf.ballots import Council
from oneshelf.errors import InvalidKnown, InvalidNamed, InvalidRuns, InvalidState
from oneshelf.failures import SlotsClash
from oneshelf.kinds import Kind
from oneshelf.slots import chosen_calls, holes, joined, led_by, led_once, prefix
from oneshelf.trees import Tree
from recalled import COUNTER, FLAG
from support import Case, Dice, is_int, is_listy, junk, variants
from test_ballots import whole
from test_fast import is_text

TURN = Kind({"go": [(0, 1), (1, 0)]})
KINDS = (TURN, FLAG, COUNTER, Kind({"a": [(99, 0)], "b2": [(0, 0)]}))


def judge_known(value, kind=None):
    if type(value) is not dict or not all(is_int(slot) and slot >= 0 for slot in value):
        return False
    if kind is None:
        return all(is_text(call) for call in value.values())
    return all(type(call) is str and (call == "" or call in kind.calls()) for call in value.values())


def some_known(seed, calls):
    """Known calls of slots that are near, far apart, with holes or none."""
    dice = Dice(seed)
    slots = {dice.below(2 + seed % 9) for _ in range(seed % 8)}
    if seed % 5 == 0:
        slots = set(range(seed % 7))
    if seed % 7 == 0:
        slots.add(100 + dice.below(50))
    found = list(slots)
    found.sort(key=lambda slot: (slot * 7) % 5)
    return {slot: dice.one_of([*calls, ""]) for slot in found}


def own_prefix(known):
    return min(slot for slot in range(len(known) + 1) if slot not in known)


def own_led(kind, state, calls):
    answers = []
    for call in calls:
        if call == "":
            answers.append(None)
        else:
            answer, state = kind.after(state, call)
            answers.append(answer)
    return (answers, state)


class TestKnown(Case):
    def test_the_document(self):
        self.assertEqual((holes({0: "go", 1: "", 3: "go"}), led_by(TURN, 0, {0: "go", 1: "", 3: "go"})),
                         ([2], ([0, None], 1)))
        self.assertEqual(led_once(TURN, 0, [("a", "go"), ("b", "go"), ("a", "go")]), ([0, 1, 0], 0))

    def test_prefix_and_holes(self):
        for seed in range(120):
            known = some_known(seed, ["go", "a1", "zzzzzzzz"])
            self.assertEqual(self.ask(prefix, known=known), own_prefix(known))
            self.assertEqual(self.ask(holes, known=known),
                             [slot for slot in range(max(known, default=0)) if slot not in known])
        self.assertEqual((prefix({}), holes({})), (0, []))
        self.assertEqual((prefix({10 ** 20: "a"}), prefix({0: "", 10 ** 20: "a"})), (0, 1))
        self.assertEqual(holes({900: ""}), list(range(900)))
        self.assertEqual((prefix({0: ""}), holes({0: ""}), holes({1: ""})), (1, [], [0]))

    def test_joined(self):
        seen = set()
        for seed in range(200):
            one, other = some_known(seed, "ab"), some_known(seed * 3 + 1, "ab")
            clashes = sorted(slot for slot in one if slot in other and one[slot] != other[slot])
            seen.add(len(clashes) > 0)
            if clashes:
                self.refuse(SlotsClash, {"value": clashes[0]}, joined, one=one, other=other)
                self.refuse(SlotsClash, {"value": clashes[0]}, joined, one=other, other=one)
            else:
                self.assertEqual(self.ask(joined, one=one, other=other), {**one, **other})
                self.assertEqual(list(joined(one, other)), sorted({**one, **other}))
        self.assertEqual(seen, {True, False})
        self.assertEqual(joined({}, {}), {})
        self.refuse(SlotsClash, {"value": 3}, joined, one={9: "a", 3: "", 2: "b"}, other={9: "b", 3: "a", 2: "b"})

    def test_led_by(self):
        for seed in range(120):
            kind = KINDS[seed % 4]
            known = some_known(seed, kind.calls())
            for state in range(kind.states):
                calls = [known[slot] for slot in range(own_prefix(known))]
                self.assertEqual(self.ask(led_by, kind=kind, state=state, known=known), own_led(kind, state, calls))
        self.assertEqual(led_by(TURN, 1, {}), ([], 1))
        self.assertEqual(led_by(TURN, 1, {1: "go"}), ([], 1))

    def test_wrong_known(self):
        values = junk() + [{-1: "a"}, {True: "a"}, {False: "a"}, {0: None}, {0: "A"}, {0: "123456789"}, {"0": "a"},
                           {0: "go", 1: 5}, {(0,): "go"}, [(0, "go")], {0: ["go"]}]
        values += variants({0: "go", 1: "", 3: "go"})
        for value in values:
            if not judge_known(value):
                told = {"value": value}
                self.refuse(InvalidKnown, told, prefix, known=value)
                self.refuse(InvalidKnown, told, holes, known=value)
                self.refuse(InvalidKnown, told, joined, one=value, other=None)
                self.refuse(InvalidKnown, told, joined, one={0: "other"}, other=value)
            if not judge_known(value, TURN):
                self.refuse(InvalidKnown, {"value": value}, led_by, kind=TURN, state=0, known=value)
        self.assertEqual(led_by(TURN, 0, {0: "go"}), ([0], 1))
        for value in ({0: "stop"}, {0: "go", 5: "stop"}, {7: "go1"}):
            self.assertEqual(type(prefix(value)), int)
            self.refuse(InvalidKnown, {"value": value}, led_by, kind=TURN, state=0, known=value)

    def test_wrong_states(self):
        for value in junk():
            if not (is_int(value) and 0 <= value < 2):
                self.refuse(InvalidState, {"value": value}, led_by, kind=TURN, state=value, known=None)
                self.refuse(InvalidState, {"value": value}, led_once, kind=TURN, state=value, named=None)


class TestNamed(Case):
    def test_by_names(self):
        for seed in range(150):
            kind, dice = KINDS[seed % 4], Dice(seed)
            named = [(dice.one_of(["a", "b", "c1", "zzzzzzzz"][:1 + seed % 4]), dice.one_of(kind.calls()))
                     for _ in range(seed % 7)]
            state = dice.below(kind.states)
            done, now, answers = {}, state, []
            for name, call in named:
                if name not in done:
                    done[name], now = kind.after(now, call)
                answers.append(done[name])
            self.assertEqual(self.ask(led_once, kind=kind, state=state, named=named), (answers, now))
            self.assertEqual(led_once(kind, state, tuple(named)), (answers, now))

    def test_a_name_that_comes_again_with_another_call(self):
        self.assertEqual(led_once(FLAG, 0, [("x", "get"), ("x", "set"), ("y", "get")]), ([0, 0, 0], 0))
        self.assertEqual(led_once(FLAG, 0, []), ([], 0))

    def test_wrong_named(self):
        good = [("a", "go"), ("b", "go")]
        values = [("a", "go"), ("a",), ("", "go"), ("1a", "go"), ("A", "go"), ("a", ""), ("a", "set"), ("a", None),
                  ["a", "go"], ("a", "go", "go"), None, "ago", ("a", ("go",)), (True, "go"), ("123456789", "go")]
        for value in values:
            if value != ("a", "go"):
                for at in range(3):
                    self.refuse(InvalidNamed, {"position": at}, led_once, kind=TURN, state=1,
                                named=good[:at] + [value] + good[at:] + [None])
        for value in junk():
            if not is_listy(value):
                self.refuse(InvalidNamed, {"position": None}, led_once, kind=TURN, state=0, named=value)
            elif len(value) > 0:
                self.refuse(InvalidNamed, {"position": 0}, led_once, kind=TURN, state=0, named=value)


class TestChosenCalls(Case):
    def test_by_walking(self):
        seen = set()
        for k, council in enumerate(some_councils(80)):
            runs = {slot * 3 % 7: some_council_run(council, 31 * k + slot, 12 * slot) for slot in range(5)}
            wanted = {}
            for slot in sorted(runs):
                told = walk_council(council, runs[slot]).chosen()
                seen.add(min(len(told), 2))
                if told:
                    wanted[slot] = told[0][1]
            self.assertEqual(self.ask(chosen_calls, council=council, runs=runs), wanted)
            self.assertEqual(list(chosen_calls(council, runs)), sorted(wanted))
        self.assertEqual(seen, {0, 1, 2})

    def test_edges(self):
        council = Council(Tree(0), Tree(0))
        one, other = whole(1, "a", (0,), (0,)), whole(1, "", (0,), (0,))
        self.assertEqual(chosen_calls(council, {}), {})
        self.assertEqual(chosen_calls(council, {500: one, 0: [], 10 ** 20: tuple(other), 7: one[:3]}),
                         {500: "a", 10 ** 20: ""})
        unsafe = Council(Tree.of(1, 0, 1), Tree.of(1, 0, 1))
        run = whole(5, "z", (0,), (0,)) + whole(2, "a", (1,), (1,))
        self.assertEqual(chosen_calls(unsafe, {0: run}), {0: "a"})

    def test_wrong_runs(self):
        council = Council(Tree(0), Tree(0))
        good = whole(1, "a", (0,), (0,))
        for value in junk() + variants({0: good, 3: []}) + [{0: good + [None]}, {-1: []}, {True: []}, {"0": []}, {0: None}]:
            fine = type(value) is dict and all(is_int(slot) and slot >= 0 for slot in value) and all(
                type(walk_council(council, run)) is Room for run in value.values())
            if fine:
                self.assertIs(type(chosen_calls(council, value)), dict)
            else:
                self.refuse(InvalidRuns, {"value": value}, chosen_calls, council=council, runs=value)


if __name__ == "__main__":
    unittest.main()

"""[56]: own orders with told writes, links, rings. (Own orders and refusals themselves: test_refusals.)"""

import itertools
import unittest

from oneshelf.errors import InvalidThings, InvalidWrites
from oneshelf.failures import BadRead, NotPlain, SameText
from oneshelf.histories import History
from oneshelf.ownorder import explains_own, is_ring, links, ring, told_order
from recalled import judge_order, plain_histories, try_calls
from support import Case, Dice, is_int, is_listy, junk, variants
from test_refusals import read, write
from test_zones import long_entries, try_counting, value_of


def try_writes(entries, name):
    """The numbers of the writes of a name that count."""
    calls = try_calls(entries)
    return [k for k in try_counting(entries) if calls[k][1] == name and calls[k][2][0] == "write"]


def all_writes(entries, firsts):
    """All that WRITES can be."""
    rows = [itertools.permutations(try_writes(entries, name)) for name in firsts]
    return [dict(zip(firsts, [list(row) for row in some])) for some in itertools.product(*rows)]


def try_links(entries, firsts, writes):
    calls, fit, found = try_calls(entries), try_counting(entries), []
    for one in fit:
        for other in fit:
            mine = [k for k in fit if calls[k][0] == calls[one][0]]
            if one != other and other in mine and mine.index(other) == mine.index(one) + 1:
                found.append((one, other, "own"))
            if calls[one][1] != calls[other][1]:
                continue
            row = list(writes[calls[one][1]])
            if one in row and calls[other][2] == ("read",) and value_of(calls[one]) == value_of(calls[other]):
                found.append((one, other, "read"))
            if one in row and other in row and row.index(other) == row.index(one) + 1:
                found.append((one, other, "told"))
            if calls[one][2] == ("read",) and other in row:
                at = row.index(other)
                text = value_of(calls[row[at - 1]])[1] if at else firsts[calls[one][1]]
                if calls[one][5] == text:
                    found.append((one, other, "next"))
    return sorted(found)


def bad_reads(entries, firsts):
    """The reads whose value is neither written nor there at first."""
    calls = try_calls(entries)
    there = [value_of(call) for call in calls if call[2][0] == "write"] + list(firsts.items())
    return [k for k in try_counting(entries) if calls[k][2] == ("read",) and value_of(calls[k]) not in there]


def judge_ring(entries, firsts, writes, value):
    if not is_listy(value) or len(value) < 2 or not all(is_int(k) for k in value) or len(set(value)) < len(value):
        return False
    pairs = {(one, other) for one, other, _ in try_links(entries, firsts, writes)}
    return all(pair in pairs for pair in zip(value, list(value[1:]) + [value[0]]))


def keeps(writes, numbers):
    return all([k for k in numbers if k in row] == list(row) for row in writes.values())


def try_told(entries, firsts, writes):
    """Whether some own order keeps WRITES and explains."""
    fit = try_counting(entries)
    return any(keeps(writes, numbers) and judge_order(entries, firsts, list(numbers), True)
               for numbers in itertools.permutations(fit))


def told_cases(many=150, calls=5):
    """Tuples of entries, firsts, and some of what WRITES can be."""
    found = []
    for seed, (entries, firsts) in enumerate(plain_histories(many, calls, 3)):
        writes = all_writes(entries, firsts)
        found += [(entries, firsts, writes[k]) for k in {0, Dice(seed).below(len(writes)), len(writes) - 1}]
    return found


class TestLinks(Case):
    def test_the_document(self):
        some = History([write(0, "a"), read(1), ("answer", 1, "a"), read(1), ("answer", 1, "")])
        self.assertEqual(self.ask(links, history=some, firsts={"s": ""}, writes={"s": [0]}),
                         [(0, 1, "read"), (1, 2, "own"), (2, 0, "next")])
        self.assertIs(is_ring(some, {"s": ""}, {"s": (0,)}, [0, 1, 2]), True)

    def test_by_trying_all(self):
        for entries, firsts, writes in told_cases(120, 7):
            told = self.ask(links, history=History(entries), firsts=firsts, writes=writes)
            self.assertEqual(told, try_links(entries, firsts, writes))
            turned = {name: tuple(writes[name]) for name in list(writes)[::-1]}
            self.assertEqual(links(History(entries), firsts, turned), told)

    def test_one_of_both(self):
        seen = set()
        for entries, firsts, writes in told_cases():
            told = {"history": History(entries), "firsts": firsts, "writes": writes}
            bad = bad_reads(entries, firsts)
            if bad:
                self.refuse(BadRead, {"value": bad[0]}, told_order, **told)
                self.refuse(BadRead, {"value": bad[0]}, ring, **told)
                seen.add("bad")
                continue
            some, found = self.ask(told_order, **told), self.ask(ring, **told)
            self.assertIs(some is None, found is not None)
            self.assertIs(some is not None, try_told(entries, firsts, writes))
            if some is not None:
                self.assertIs(judge_order(entries, firsts, some, True) and keeps(writes, some), True)
                self.assertIs(explains_own(told["history"], firsts, some), True)
            else:
                self.assertIs(judge_ring(entries, firsts, writes, found), True)
                self.assertIs(self.yes_or_no(is_ring, **told, value=found), True)
            seen.add(some is None)
        self.assertEqual(seen, {True, False, "bad"})

    def test_what_is_a_ring(self):
        for entries, firsts, writes in told_cases(110, 5):
            history, fit = History(entries), try_counting(entries)
            values = [list(some) for many in (1, 2, 3) for some in itertools.permutations(fit, many)]
            for value in values:
                self.assertIs(is_ring(history, firsts, writes, value), judge_ring(entries, firsts, writes, value), value)
            if not bad_reads(entries, firsts):
                for value in variants(ring(history, firsts, writes)):
                    self.assertIs(is_ring(history, firsts, writes, value), judge_ring(entries, firsts, writes, value))

    def test_any_value(self):
        some = History([write(0, "a"), ("answer", 0, ""), read(0), ("answer", 0, "")])
        for value in junk() + [[0, 1], (1, 0), [0, True], [False, 1], [0, 1, 0], [0, 1, 0, 1], [0], [1, 1], {0: 1, 1: 0}]:
            told = self.yes_or_no(is_ring, history=some, firsts={"s": ""}, writes={"s": [0]}, value=value)
            self.assertIs(told, judge_ring(some.entries(), {"s": ""}, {"s": [0]}, value), value)
        self.assertIs(is_ring(some, {"s": ""}, {"s": [0]}, [1, 0]), True)

    def test_a_long_history(self):
        entries = long_entries(4)
        history = History(entries)
        firsts = {name: "" for name in history.names()}
        writes = {name: try_writes(entries, name) for name in firsts}
        told = self.ask(links, history=history, firsts=firsts, writes=writes)
        self.assertEqual(told, try_links(entries, firsts, writes))
        for some in (writes, {name: writes[name][::-1] for name in writes}):
            found, numbers = ring(history, firsts, some), told_order(history, firsts, some)
            self.assertIs(found is None, numbers is not None)
            if found is None:
                self.assertIs(judge_order(entries, firsts, numbers, True) and keeps(some, numbers), True)
            else:
                self.assertIs(judge_ring(entries, firsts, some, found), True)

    def test_no_entries(self):
        empty = History([])
        self.assertEqual([links(empty, {}, {}), told_order(empty, {}, {}), ring(empty, {}, {})], [[], [], None])
        waiting = History([write(0, "a"), read(1)])
        self.assertEqual([links(waiting, {"s": ""}, {"s": []}), told_order(waiting, {"s": ""}, {"s": ()})], [[], []])

    def test_writes_that_no_time_bars(self):
        """Own orders heed no time: a read may tell what is written behind it."""
        some = History([read(0), ("answer", 0, "a"), write(1, "a"), ("answer", 1, "")])
        self.assertEqual(told_order(some, {"s": ""}, {"s": [1]}), [1, 0])
        self.assertEqual(links(some, {"s": ""}, {"s": [1]}), [(1, 0, "read")])


class TestErrors(Case):
    def wrong(self, error, told, history, firsts, writes, functions=(links, told_order, ring)):
        for function in functions:
            self.refuse(error, told, function, history=history, firsts=firsts, writes=writes)
        if len(functions) == 3:
            for value in (None, [0, 1]):
                self.refuse(error, told, is_ring, history=history, firsts=firsts, writes=writes, value=value)

    def test_wrong_writes(self):
        for entries, firsts, writes in told_cases(30, 6):
            history = History(entries)
            right = {name: try_writes(entries, name) for name in firsts}
            for value in junk() + variants(writes)[:80] + [{**writes, True: []}, {**writes, "more": []}]:
                good = type(value) is dict and all(type(name) is str for name in value) and sorted(value) == sorted(right)
                good = good and all(is_listy(row) and all(is_int(k) for k in row) and sorted(row) == right[name]
                                    for name, row in value.items())
                if not good:
                    self.wrong(InvalidWrites, {"value": value}, history, firsts, value)

    def test_writes_that_do_not_count(self):
        some = History([write(0, "a"), write(1, "b"), ("answer", 1, ""), read(2), read(3), ("answer", 3, "c")])
        for value in ({"s": [0, 1]}, {"s": []}, {"s": [1, 1]}, {"s": [True]}, {"s": [1, 2]}, {"s": [3]}, {"s": {1: 1}},
                      {"t": [1]}, {}, {"s": [1], "t": []}):
            self.wrong(InvalidWrites, {"value": value}, some, {"s": ""}, value)
        self.assertEqual(links(some, {"s": ""}, {"s": [1]}), [])
        self.wrong(BadRead, {"value": 3}, some, {"s": ""}, {"s": [1]}, (told_order, ring))
        self.assertIs(is_ring(some, {"s": ""}, {"s": [1]}, [1, 3]), False)

    def test_bad_reads(self):
        some = History([read(0), ("answer", 0, "b"), read(0, "t"), ("answer", 0, "x"), read(1), ("answer", 1, "y"),
                        write(2, "b", "t")])
        firsts, writes = {"s": "b", "t": ""}, {"s": [], "t": []}
        self.wrong(BadRead, {"value": 1}, some, firsts, writes, (told_order, ring))
        self.wrong(BadRead, {"value": 0}, some, {"s": "", "t": ""}, writes, (told_order, ring))
        self.assertEqual(links(some, firsts, writes), [(0, 1, "own")])

    def test_their_sequence(self):
        odd = History([write(0, "a"), ("answer", 0, "x"), write(0, "a"), read(1), ("answer", 1, "zz")])
        self.wrong(InvalidThings, {"value": {}}, odd, {}, None)
        self.wrong(NotPlain, {}, odd, {"s": "a"}, None)
        same = History([write(0, "a"), ("answer", 0, ""), write(0, "a"), read(1), ("answer", 1, "zz")])
        self.wrong(SameText, {"value": 0}, same, {"s": "a"}, None)
        self.wrong(SameText, {"value": 1}, same, {"s": ""}, None)
        bad = same.only([0, 2])
        self.wrong(InvalidWrites, {"value": None}, bad, {"s": ""}, None)
        self.wrong(BadRead, {"value": 1}, bad, {"s": ""}, {"s": [0]}, (told_order, ring))


if __name__ == "__main__":
    unittest.main()

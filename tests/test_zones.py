"""[54]: plain histories: what counts, zones, what bars, and plain refusals."""

import unittest

from oneshelf.errors import InvalidThings
from oneshelf.failures import NotPlain, SameText
from oneshelf.histories import History
from oneshelf.refusals import explains, is_explained
from oneshelf.zones import (barring, counting, is_plain_explained, is_plain_refusal, plain_order, plain_refusal, zones)
from recalled import ahead, explained, judge_name, judge_order, judge_text, plain_entries, plain_histories, try_calls
from support import Case, is_int, junk, variants
from test_refusals import read, write

ALL = (counting, zones, barring, is_plain_explained, plain_order, plain_refusal)


def value_of(call):
    return (call[1], call[2][1] if call[2][0] == "write" else call[5])


def try_counting(entries):
    calls = try_calls(entries)
    told = [value_of(call) for call in calls if call[2] == ("read",) and call[4] is not None]
    return [k for k, call in enumerate(calls) if call[4] is not None
            or (call[2][0] == "write" and value_of(call) in told)]


def calls_of(entries, firsts):
    """The dict from values to the calls that count and are of them."""
    calls, found = try_calls(entries), {(name, firsts[name]): [] for name in firsts}
    for k in try_counting(entries):
        found.setdefault(value_of(calls[k]), []).append(k)
    return found


def stands_ahead(entries, firsts, one, other):
    """Whether the one value stands ahead of the other one of the same name."""
    calls, found = try_calls(entries), calls_of(entries, firsts)
    return firsts[one[0]] == one[1] or any(ahead(calls, c, d) for c in found[one] for d in found[other])


def try_barring(entries, firsts):
    found = sorted(calls_of(entries, firsts))
    return [one + (other[1],) for one in found for other in found if one[0] == other[0] and one[1] < other[1]
            and stands_ahead(entries, firsts, one, other) and stands_ahead(entries, firsts, other, one)]


def try_zones(entries, firsts):
    calls, found = try_calls(entries), []
    for value, numbers in sorted(calls_of(entries, firsts).items()):
        ends = [calls[k][4] for k in numbers if calls[k][4] is not None] + [len(entries)]
        end = -1 if firsts[value[0]] == value[1] else min(ends)
        found.append(value + (end, max([calls[k][3] for k in numbers] + [-1])))
    return found


def is_bad(entries, firsts, number):
    calls = try_calls(entries)
    call = calls[number]
    if call[2] != ("read",) or call[4] is None or firsts[call[1]] == call[5]:
        return False
    return not any(other[1] == call[1] and other[2] == ("write", call[5]) and other[3] < call[4] for other in calls)


def judge_refusal(entries, firsts, value):
    if type(value) is not tuple or len(value) < 2 or type(value[0]) is not str:
        return False
    calls, fit = try_calls(entries), try_counting(entries)
    if not all(is_int(k) and k in fit for k in value[1:]):
        return False
    of = {k: value_of(calls[k]) for k in fit}
    if value[0] == "bad" and len(value) == 2:
        return is_bad(entries, firsts, value[1])
    if value[0] == "late" and len(value) == 3:
        c, d = value[1:]
        return (ahead(calls, c, d) and calls[d][2] == ("read",) and firsts[calls[d][1]] == calls[d][5]
                and of[c][0] == of[d][0] and of[c][1] != of[d][1])
    if value[0] == "bars" and len(value) == 5:
        a, b, c, d = value[1:]
        return (of[a] == of[d] and of[b] == of[c] and of[a][0] == of[b][0] and of[a][1] != of[b][1]
                and ahead(calls, a, b) and ahead(calls, c, d))
    return False


def long_entries(seed):
    """240 entries of a plain history that some order explains."""
    return plain_entries(seed, ("s", "t", "u"), 6, 140, 10 ** 9)[:240]


class TestExamples(Case):
    def test_the_document(self):
        some = History([write(0, "a"), read(1), ("answer", 1, "a"), read(1), ("answer", 1, "")])
        self.assertEqual([self.ask(zones, history=some, firsts={"s": ""}),
                          is_plain_refusal(some, {"s": ""}, ("late", 1, 2))],
                         [[("s", "", -1, 3), ("s", "a", 2, 1)], True])


class TestByTryingAll(Case):
    def test_what_there_is(self):
        for entries, firsts in plain_histories(200, 7):
            told = {"history": History(entries), "firsts": firsts}
            self.assertEqual(self.ask(counting, **told), try_counting(entries))
            self.assertEqual(self.ask(zones, **told), try_zones(entries, firsts))
            self.assertEqual(self.ask(barring, **told), try_barring(entries, firsts))

    def test_one_of_both(self):
        seen = set()
        for entries, firsts in plain_histories(500, 7, 3):
            told = {"history": History(entries), "firsts": firsts}
            right = explained(entries, firsts)
            self.assertIs(self.yes_or_no(is_plain_explained, **told), right)
            self.assertIs(any(is_bad(entries, firsts, k) for k in range(len(try_calls(entries))))
                          or bool(try_barring(entries, firsts)), not right)
            some, refused = self.ask(plain_order, **told), self.ask(plain_refusal, **told)
            self.assertIs(some is None, not right)
            self.assertIs(refused is None, right)
            if right:
                self.assertIs(judge_order(entries, firsts, some), True)
            else:
                self.assertIs(judge_refusal(entries, firsts, refused), True)
                self.assertIs(self.yes_or_no(is_plain_refusal, **told, value=refused), True)
                self.assertIs(self.refused_alone(told["history"], firsts, refused), True)
                seen.add(refused[0])
        self.assertEqual(seen, {"bad", "late", "bars"})

    def refused_alone(self, history, firsts, refused):
        """Whether these calls, with those that write their values, are refused."""
        calls = history.calls()
        values = [value_of(calls[k]) for k in refused[1:]]
        numbers = set(refused[1:]) | {k for k, call in enumerate(calls) if call[2][0] == "write"
                                      and value_of(call) in values}
        part = history.only(sorted(numbers))
        return not explained(part.entries(), firsts)

    def test_what_refuses(self):
        for entries, firsts in plain_histories(120, 6, 3):
            history = History(entries)
            found = [k for k in range(len(history))]
            values = [(word, k) for k in found for word in ("bad", "late")]
            values += [(word, c, d) for c in found for d in found for word in ("late", "bars")]
            values += [("bars", a, b, c, d) for a in found[:4] for b in found[:4] for c in found[:4] for d in found[:4]]
            for value in values:
                self.assertIs(is_plain_refusal(history, firsts, value), judge_refusal(entries, firsts, value), value)
            refused = plain_refusal(history, firsts)
            if refused:
                for value in variants(refused) + [tuple(refused) + (None,), list(refused)]:
                    self.assertIs(is_plain_refusal(history, firsts, value), judge_refusal(entries, firsts, value), value)

    def test_any_value(self):
        for entries, firsts in plain_histories(6) + [([read(0), ("answer", 0, "b")], {"s": ""})]:
            for value in junk() + [("bad", 0), ("bad", False), ["bad", 0], ("bad", 0, 0), ("late", 0, 0), ("bars", 0, 0, 0, 0),
                                   ("bad", "0"), ("bad",), (b"bad", 0), ("worse", 0)]:
                told = self.yes_or_no(is_plain_refusal, history=History(entries), firsts=firsts, value=value)
                self.assertIs(told, judge_refusal(entries, firsts, value), value)


class TestEdges(Case):
    def test_no_entries_and_open_calls_alone(self):
        for entries, firsts in (([], {}), ([read(0)], {"s": "a"}), ([write(0, "a"), read(1)], {"s": ""})):
            history = History(entries)
            self.assertEqual(counting(history, firsts), [])
            self.assertEqual(zones(history, firsts), [(name, firsts[name], -1, -1) for name in firsts])
            self.assertEqual((barring(history, firsts), plain_order(history, firsts)), ([], []))
            self.assertIs(is_plain_explained(history, firsts), True)
            self.assertIsNone(plain_refusal(history, firsts))

    def test_an_open_write_that_is_told(self):
        history = History([write(0, "a"), write(2, "b"), read(1), ("answer", 1, "a"), read(3)])
        self.assertEqual(counting(history, {"s": ""}), [0, 2])
        self.assertEqual(zones(history, {"s": ""}), [("s", "", -1, -1), ("s", "a", 3, 2)])
        self.assertEqual(plain_order(history, {"s": ""}), [0, 2])

    def test_a_read_ahead_of_the_write_that_it_tells(self):
        history = History([read(0), ("answer", 0, "a"), write(1, "a")])
        self.assertEqual(plain_refusal(history, {"s": ""}), ("bad", 0))
        self.assertEqual(zones(history, {"s": ""}), [("s", "", -1, -1), ("s", "a", 1, 2)])
        self.assertEqual(barring(history, {"s": ""}), [])
        self.assertIs(is_plain_explained(history, {"s": ""}), False)
        fine = History([read(0), write(1, "a"), ("answer", 0, "a")])
        self.assertEqual(plain_order(fine, {"s": ""}), [1, 0])

    def test_three_kinds_of_refusals(self):
        late = History([write(0, "a"), ("answer", 0, ""), read(1), ("answer", 1, "")])
        self.assertEqual(plain_refusal(late, {"s": ""}), ("late", 0, 1))
        bars = History([write(0, "a"), ("answer", 0, ""), write(0, "b"), ("answer", 0, ""), read(1), ("answer", 1, "a")])
        self.assertEqual(barring(bars, {"s": ""}), [("s", "a", "b")])
        self.assertIn(plain_refusal(bars, {"s": ""}), [("bars", 0, 1, 1, 2), ("bars", 1, 2, 0, 1)])
        for value in (("bars", 0, 1, 1, 2), ("bars", 1, 2, 0, 1)):
            self.assertIs(is_plain_refusal(bars, {"s": ""}, value), True)
        for value in (("bars", 0, 1, 2, 1), ("bars", 2, 1, 1, 0), ("bars", 0, 0, 1, 2), ("late", 1, 2)):
            self.assertIs(is_plain_refusal(bars, {"s": ""}, value), False)
        first = History([read(0), ("answer", 0, ""), write(0, "a"), ("answer", 0, ""), read(0), ("answer", 0, "")])
        self.assertEqual(barring(first, {"s": ""}), [("s", "", "a")])
        self.assertIs(is_plain_refusal(first, {"s": ""}, ("bars", 0, 1, 1, 2)), True)
        self.assertIs(is_plain_refusal(first, {"s": ""}, ("late", 1, 2)), True)
        other = History([read(0), ("answer", 0, "z"), write(0, "a"), ("answer", 0, ""), read(0), ("answer", 0, "z")])
        self.assertEqual(barring(other, {"s": "z"}), [("s", "a", "z")])
        self.assertEqual(plain_refusal(other, {"s": "z"}), ("late", 1, 2))

    def test_the_read_that_began_last_need_not_end_last(self):
        late = History([read(1), write(0, "a"), ("answer", 0, ""), read(2), ("answer", 2, ""), ("answer", 1, "")])
        self.assertEqual(plain_refusal(late, {"s": ""}), ("late", 1, 2))
        for one, other in (("a", "b"), ("b", "a")):
            bars = History([write(0, one), ("answer", 0, ""), write(0, other), read(1), ("answer", 0, ""), read(2),
                            ("answer", 2, one), ("answer", 1, one)])
            self.assertEqual(barring(bars, {"s": ""}), [("s", "a", "b")])
            self.assertIn(plain_refusal(bars, {"s": ""}), [("bars", 0, 1, 1, 3), ("bars", 1, 3, 0, 1)])

    def test_two_hundred_and_forty_entries(self):
        for seed in range(3):
            entries = long_entries(seed)
            history = History(entries)
            firsts = {name: "" for name in history.names()}
            self.assertEqual(len(entries), 240)
            told = self.ask(plain_order, history=history, firsts=firsts)
            self.assertIs(judge_order(entries, firsts, told), True)
            self.assertIs(explains(history, firsts, told), True)
            self.assertEqual(sorted(told), counting(history, firsts))
            self.assertIs(is_plain_explained(history, firsts), True)
            self.assertEqual(zones(history, firsts), try_zones(entries, firsts))
            self.assertIsNone(plain_refusal(history, firsts))

    def test_names_by_themselves_and_other_texts(self):
        one = History([write(0, "a"), ("answer", 0, ""), read(1, "t"), ("answer", 1, "a"), write(2, "a", "t"),
                       read(3), ("answer", 3, "a")])
        self.assertEqual(plain_refusal(one, {"s": "", "t": ""}), ("bad", 1))
        self.assertEqual(plain_refusal(one, {"s": "b", "t": ""}), ("bad", 1))
        self.assertEqual(is_explained(one, {"s": "", "t": ""}), False)


class TestErrors(Case):
    def wrong(self, error, told, history, firsts):
        for function in ALL:
            self.refuse(error, told, function, history=history, firsts=firsts)
        for value in (None, ("bad", 0)):
            self.refuse(error, told, is_plain_refusal, history=history, firsts=firsts, value=value)

    def test_wrong_firsts(self):
        for entries, firsts in plain_histories(10, 5) + [([write(0, "a"), ("answer", 0, "x")], {"s": "a"})]:
            history, names = History(entries), sorted({call[1] for call in try_calls(entries)})
            values = junk() + [{**firsts, "more": ""}, {**firsts, True: ""}, list(firsts.items())]
            for name in firsts:
                rest = {other: firsts[other] for other in firsts if other != name}
                values += [rest, {**rest, "zz": ""}]
                values += [{**firsts, name: text} for text in ("A", None, 0, "123456789", ("a",), b"", ["a"], True)]
            for value in values:
                good = type(value) is dict and all(judge_name(name) for name in value) and sorted(value) == names \
                    and all(judge_text(text) for text in value.values())
                if not good:
                    self.wrong(InvalidThings, {"value": value}, history, value)

    def test_not_plain(self):
        for entries in ([("call", 0, "s", "get")], [read(1), ("call", 0, "s", "read")], [read(0), ("answer", 0, 0)],
                        [write(0, "b"), ("answer", 0, "b")], [write(0, "b"), ("answer", 0, 0)],
                        [write(0, ""), write(1, "a"), ("answer", 0, "a")], [write(0, "a"), write(1, "a"), ("call", 2, "s", "x")]):
            self.wrong(NotPlain, {}, History(entries), {"s": ""})
            self.wrong(InvalidThings, {"value": {"s": "", "t": ""}}, History(entries), {"s": "", "t": ""})

    def test_texts_that_are_the_same(self):
        for entries, firsts, number in (([write(0, "")], {"s": ""}, 0), ([write(0, "a"), write(1, "a")], {"s": ""}, 1),
                                        ([read(0), write(1, "b"), write(2, "b", "t"), write(3, "b")], {"s": "", "t": "x"}, 3),
                                        ([write(0, "a", "t"), write(1, "a"), write(2, "b"), write(3, "b"), write(4, "a")],
                                         {"s": "c", "t": "b"}, 3),
                                        ([write(0, "a"), write(1, "b"), write(2, "a")], {"s": "b"}, 1)):
            self.wrong(SameText, {"value": number}, History(entries), firsts)
        fine = History([write(0, "a"), write(1, "a", "t"), read(2), ("answer", 2, "b")])
        self.assertEqual(counting(fine, {"s": "b", "t": ""}), [2])


if __name__ == "__main__":
    unittest.main()

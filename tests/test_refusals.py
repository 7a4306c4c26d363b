"""[4], [52], [53], [55]: orders that explain, refusals, beginnings, and what open calls can still answer."""

import unittest

from oneshelf.errors import InvalidHand, InvalidThings, TooMany
from oneshelf.histories import History
from oneshelf.kinds import Kind
from oneshelf.ownorder import explains_own, is_own_refusal, own_order, own_refusal
from oneshelf.refusals import (can_answer, explains, first_refused, is_explained, is_refusal, order, refusal)
from recalled import (COUNTER, FLAG, Ways, explained, histories, judge_entries, judge_order, some_entries, some_things,
                      try_calls, try_orders)
from support import Case, Dice, is_int, junk, variants
from test_histories import judge_things, some_wrong_things

CALLS, SPOTS = {"what": "calls", "limit": 8}, {"what": "spots", "limit": 2000}
PLAIN, OWN = (order, refusal, explains, is_refusal), (own_order, own_refusal, explains_own, is_own_refusal)


def read(hand, name="s"):
    return ("call", hand, name, ("read",))


def write(hand, text, name="s"):
    return ("call", hand, name, ("write", text))


def wild(first, answer=lambda state: 0):
    """A Kind of eight states whose calls lead all over; of the one of four that is told."""
    rows = [([2, 2, 0, 4, 1, 0, 0, 5], [3, 7, 7, 5, 3, 6, 3, 6], [4, 6, 4, 7, 6, 2, 0, 1], [4, 5, 3, 6, 3, 6, 5, 1]),
            ([1, 2, 3, 4, 5, 6, 7, 0], [0, 0, 1, 1, 2, 2, 3, 3], [7, 6, 5, 4, 3, 2, 1, 0], [3, 3, 3, 6, 2, 1, 4, 7]),
            ([2, 2, 0, 4, 1, 0, 0, 5], [2, 7, 7, 5, 3, 6, 3, 6], [4, 6, 4, 7, 6, 2, 0, 1], [4, 5, 3, 6, 3, 6, 5, 1]),
            ([0, 4, 1, 5, 3, 4, 0, 3], [6, 5, 0, 6, 7, 7, 7, 5], [3, 5, 4, 4, 6, 6, 2, 3], [4, 0, 1, 7, 3, 1, 2, 3])]
    return Kind({name: [(answer(k), state) for k, state in enumerate(row)] for name, row in zip("abcd", rows[first])})


def open_calls(names, calls):
    """Eight calls that begin, and do not end."""
    return [("call", hand, names[hand % len(names)], calls[hand // 2 % len(calls)]) for hand in range(8)]


class TestOrders(Case):
    def test_by_trying_all(self):
        seen = set()
        for entries, things in histories(150, 5, 4):
            for own, (first, refused, explaining, closed) in ((False, PLAIN), (True, OWN)):
                told = {"history": History(entries), "things": things}
                right = try_orders(entries, things, own)
                ways = Ways(entries, things, own)
                self.assertIs(any(ways.is_last(spot) for spot in ways.all()), bool(right))
                self.assertEqual(self.ask(first, **told), right[0] if right else None)
                self.assertEqual(self.ask(refused, **told), None if right else ways.all())
                for value in right:
                    self.assertIs(explaining(**told, value=value), True)
                if not own:
                    self.assertIs(self.yes_or_no(is_explained, **told), bool(right))
                if not right:
                    self.assertIs(self.yes_or_no(closed, **told, value=ways.all()), True)
                    self.assertIs(closed(**told, value=tuple(ways.all()[::-1])), True)
                seen.add((own, bool(right)))
        self.assertEqual(len(seen), 4)

    def test_own_orders_explain_more(self):
        found = [(entries, things) for entries, things in histories(150, 5, 4)]
        only_own = [entries for entries, things in found if explained(entries, things, True) and
                    not explained(entries, things)]
        self.assertTrue(only_own)
        stale = History([write(0, "a"), ("answer", 0, ""), read(1), ("answer", 1, "")])
        self.assertEqual((order(stale, {"s": ""}), own_order(stale, {"s": ""})), (None, [1, 0]))
        self.assertFalse([entries for entries, things in found if explained(entries, things)
                          and not explained(entries, things, True)])

    def test_open_calls_stand_in_orders_only_where_needed(self):
        some = History([write(0, "a"), read(1), ("answer", 1, "a"), read(2), write(3, "c")])
        self.assertEqual(order(some, {"s": ""}), [0, 1])
        for value, good in (([0, 1], True), ([0, 1, 2], True), ([0, 1, 3, 2], True), ([2, 3, 0, 1], False), ([1], False),
                            ([1, 0], False), ([0, 3, 1], False), ([3, 0, 1], False), ([], False), ([0, 1, 1], False),
                            ([0, 1, 2, 3], True), ([0, 2, 1], False), ([0], False)):
            self.assertIs(explains(some, {"s": ""}, value), good, value)
        many = History([write(0, "a"), write(1, "b"), read(2), ("answer", 2, "b")])
        self.assertEqual(order(many, {"s": ""}), [0, 1, 2])
        self.assertEqual(order(many.only([1, 0]), {"s": ""}), [])

    def test_what_explains(self):
        for entries, things in histories(60, 4):
            many = len(try_calls(entries))
            right = try_orders(entries, things) + try_orders(entries, things, True)
            values = junk() + [list(range(many)), list(range(many))[::-1]]
            for value in right[:1] + right[-1:]:
                values += variants(value) + [tuple(value)]
            for value in values:
                told = {"history": History(entries), "things": things, "value": value}
                self.assertIs(self.yes_or_no(explains, **told), judge_order(entries, things, value), value)
                self.assertIs(self.yes_or_no(explains_own, **told), judge_order(entries, things, value, True), value)

    def test_what_refuses(self):
        for entries, things in histories(70, 4, 3):
            for own, closed in ((False, is_refusal), (True, is_own_refusal)):
                ways = Ways(entries, things, own)
                spots, more = ways.all(), ()
                if spots[0][1] and isinstance(things[ways.names[0]], str):
                    more = ((spots[0][0], ("zz",) + spots[0][1][1:]),)
                values = junk() + [spots, spots + list(more), [], spots[:-1], spots[1:], spots + spots[:1]]
                values += variants(spots[:3])[:90]
                for value in values:
                    self.assertIs(closed(History(entries), things, value), ways.judge(value), value)

    def test_refusals_with_spots_that_are_not_come_to(self):
        entries = [read(0), ("answer", 0, "b"), read(1)]
        history, things = History(entries), {"s": "a"}
        first, later, other = ((0, 0), ("a",)), ((0, 0), ("c",)), ((0, 1), ("c",))
        self.assertEqual(refusal(history, things), [first])
        for value, good in (([first], True), ([first, later], True), ([later, other, first], True), ([later], False),
                            ([first, ((1, 0), ("b",))], False), ([first, ((0, 0), ("b",))], False),
                            ([first, ((2, 0), ("a",))], False), ([first, ((0, 0), ("A",))], False),
                            ([first, ((0, -1), ("a",))], False), ([first, ((0, False), ("a",))], False),
                            ([first, ((0, 0), ("a", "a"))], False), ([first, ((0, 0), (0,))], False), ([first, first], False)):
            self.assertIs(is_refusal(history, things, value), good, value)
            self.assertIs(is_own_refusal(history, things, value), Ways(entries, things, True).judge(value), value)

    def test_nothing_is_ended(self):
        for entries, things in (([], {}), ([], {"s": "a"}), ([read(0)], {"s": ""}), ([write(0, "a"), read(4)], {"s": "a"}),
                                ([("call", 3, "s", "get")], {"s": (FLAG, 1)})):
            history = History(entries)
            for first, refused, explaining, closed in (PLAIN, OWN):
                self.assertEqual(first(history, things), [])
                self.assertIsNone(refused(history, things))
                self.assertIs(explaining(history, things, []), True)
                self.assertIs(closed(history, things, Ways(entries, things).all()), False)
            self.assertIs(is_explained(history, things), True)
            self.assertIsNone(first_refused(history, things))

    def test_names_by_themselves(self):
        """That a history is explained exactly if the part about each name is."""
        seen = set()
        for entries, things in histories(120, 7):
            history = History(entries)
            parts = [is_explained(history.about([name]), things) for name in history.names()]
            self.assertIs(is_explained(history, things), all(parts))
            seen.add((len(parts), all(parts)))
        self.assertLessEqual({(2, True), (2, False)}, seen)


class TestBeginnings(Case):
    def test_first_refused(self):
        seen = set()
        for entries, things in histories(150, 7, 4):
            told = self.ask(first_refused, history=History(entries), things=things)
            refused = [many for many in range(len(entries) + 1) if not explained(entries[:many], things)]
            self.assertEqual(told, refused[0] if refused else None)
            self.assertEqual(refused, list(range(refused[0], len(entries) + 1)) if refused else [])
            seen.add(told)
        self.assertGreater(len(seen), 4)

    def test_what_can_be_answered(self):
        seen = set()
        for entries, things in histories(130, 6):
            history, calls = History(entries), try_calls(entries)
            texts = sorted({""} | {"a", "b", "c", "zz"} | {first for first in things.values() if isinstance(first, str)})
            for hand in range(10):
                mine = [call for call in calls if call[0] == hand and call[4] is None]
                if not mine:
                    self.refuse(InvalidHand, {"value": hand}, can_answer, history=history, things=things, hand=hand)
                    continue
                shelf = isinstance(things[mine[0][1]], str)
                right = [answer for answer in (texts if shelf else range(12))
                         if judge_entries(entries + [("answer", hand, answer)])[0]
                         and explained(entries + [("answer", hand, answer)], things)]
                told = self.ask(can_answer, history=history, things=things, hand=hand)
                self.assertEqual(told, right)
                self.assertIs(type(told), list)
                seen.add((shelf, len(told)))
        self.assertLessEqual({(True, 0), (True, 1), (True, 2), (False, 0), (False, 1), (False, 2)}, seen)

    def test_the_document(self):
        some = History([write(0, "a"), read(1), ("answer", 1, "a"), read(1), ("answer", 1, "")])
        self.assertEqual([first_refused(some, {"s": ""}), can_answer(some.beginning(4), {"s": ""}, 1)], [5, ["a"]])

    def test_wrong_hands(self):
        some = History([read(0), read(1), ("answer", 1, "")])
        self.assertEqual(can_answer(some, {"s": ""}, 0), [""])
        for value in junk() + [1, 2, 10]:
            if not (is_int(value) and value == 0):
                self.refuse(InvalidHand, {"value": value}, can_answer, history=some, things={"s": ""}, hand=value)
        for value in (True, 1):
            one = History([read(1)])
            if value is True:
                self.refuse(InvalidHand, {"value": value}, can_answer, history=one, things={"s": ""}, hand=value)
            else:
                self.assertEqual(can_answer(one, {"s": "b"}, value), ["b"])


class TestLimits(Case):
    def limited(self, history, things, own, told=None):
        """That the functions with a limit refuse it; or not, if none is told."""
        functions = (own_order, own_refusal) if own else (is_explained, order, refusal, first_refused)
        for function in functions:
            if told is None:
                function(history, things)
            else:
                self.refuse(TooMany, told, function, history=history, things=things)

    def test_eight_calls_and_nine(self):
        eight = [read(0), ("answer", 0, "")] * 8
        for entries, told in ((eight, None), (eight + [read(1)], CALLS), (eight * 5, CALLS), (eight[2:] + [read(7)], None)):
            history = History(entries)
            for own in (False, True):
                self.limited(history, {"s": ""}, own, told)
            waiting = history + read(9) if told else history
            if told:
                self.refuse(TooMany, CALLS, can_answer, history=waiting, things={"s": ""}, hand=9)
            numbers = list(range(len(history)))
            self.assertIs(explains(history, {"s": ""}, numbers) and explains_own(history, {"s": ""}, numbers), True)
            self.assertIs(is_refusal(history, {"s": ""}, [((0, 0), ("",))]), False)
            self.assertIs(is_own_refusal(history, {"s": ""}, None), False)
        self.assertEqual(can_answer(History(eight[2:] + [read(7)]), {"s": ""}, 7), [""])

    def test_two_thousand_spots(self):
        seen = []
        for one, other, calls in ((0, 0, "abcd"), (0, 1, "abcd"), (1, 1, "abcd"), (0, 0, "abc"), (0, 1, "ab"),
                                  (0, 2, "abcd"), (3, 0, None)):
            things = {"s": (wild(one), 0), "t": (wild(other), 0)}
            entries = open_calls(("s", "t"), calls) if calls else [
                ("call", hand, "sssssttt"[hand], "abcddabc"[hand]) for hand in range(8)]
            many = len(Ways(entries, things).all())
            seen.append(many)
            self.limited(History(entries), things, False, SPOTS if many > 2000 else None)
            self.limited(History(entries), things, True, SPOTS if many > 2000 else None)
            if many > 2000:
                self.refuse(TooMany, SPOTS, can_answer, history=History(entries), things=things, hand=3)
                self.assertIs(explains(History(entries), things, []), True)
                self.assertIs(is_refusal(History(entries), things, []), False)
        # No history was found with more spots up to 2000, or fewer above.
        self.assertLessEqual({49 * 49, 49 * 41, 124 * 16}, set(seen))

    def test_own_steps_are_counted_for_themselves(self):
        things = {"s": (wild(0), 0), "t": (wild(0), 0)}
        entries = []
        for entry in open_calls(("s", "t"), "abcd"):
            entries += [entry, ("answer", entry[1], 0)]
        self.assertEqual(order(History(entries), things), list(range(8)))
        self.assertIsNone(refusal(History(entries), things))
        self.limited(History(entries), things, True, SPOTS)
        self.assertIs(explains_own(History(entries), things, list(range(8))[::-1]), True)

    def test_spots_of_the_history_itself(self):
        """That beginnings, and the history with an answer, may have more spots."""
        kind = wild(0, lambda state: state // 4)
        things = {"s": (kind, 0), "t": (kind, 0)}
        begins = open_calls(("s", "t"), "abcd")
        self.refuse(TooMany, SPOTS, first_refused, history=History(begins), things=things)
        seen = set()
        for told in (0, 1):
            entries = begins + [("answer", hand, (hand + told) % 2) for hand in range(5)]
            self.assertLessEqual(len(Ways(entries, things).all()), 2000)
            refused = [many for many in range(len(entries) + 1) if not explained(entries[:many], things)]
            self.assertEqual(first_refused(History(entries), things), refused[0] if refused else None)
            right = [answer for answer in (0, 1) if explained(entries + [("answer", 7, answer)], things)]
            self.assertEqual(can_answer(History(entries), things, 7), right)
            seen.add((bool(refused), len(right)))
        self.assertTrue(seen)

    def test_the_sequence_of_errors(self):
        nine = History([read(0), ("answer", 0, "")] * 9 + [read(1)])
        for function in (is_explained, order, refusal, first_refused, own_order, own_refusal):
            self.refuse(InvalidThings, {"value": {}}, function, history=nine, things={})
            self.refuse(TooMany, CALLS, function, history=nine, things={"s": "a"})
        self.refuse(InvalidThings, {"value": None}, can_answer, history=nine, things=None, hand=None)
        self.refuse(InvalidHand, {"value": 0}, can_answer, history=nine, things={"s": ""}, hand=0)
        self.refuse(TooMany, CALLS, can_answer, history=nine, things={"s": ""}, hand=1)
        many = History([read(hand) for hand in range(9)])
        self.refuse(TooMany, CALLS, own_order, history=many, things={"s": ""})

    def test_long_histories(self):
        entries = some_entries(77, {"s": "", "t": (COUNTER, 0)}, 6, 110, 10 ** 6)
        things = {"s": "", "t": (COUNTER, 0)}
        history = History(entries)
        numbers = list(range(len(history)))
        self.assertIs(explains(history, things, numbers), judge_order(entries, things, numbers))
        ended = [k for k, call in enumerate(history.calls()) if call[4] is not None]
        serial = [read(0), ("answer", 0, "")] * 120
        self.assertIs(explains(History(serial), {"s": ""}, list(range(120))), True)
        self.assertIs(explains(History(serial), {"s": ""}, list(range(119)) + [119, 119]), False)
        self.assertIs(explains(History(serial), {"s": ""}, [1, 0] + list(range(2, 120))), False)
        self.assertIs(explains(history, things, ended), judge_order(entries, things, ended))


class TestThings(Case):
    def test_wrong_things(self):
        for entries, things in histories(14):
            history = History(entries)
            for value in some_wrong_things(things):
                if judge_things(entries, value):
                    self.assertIs(is_explained(history, value), explained(entries, value))
                    continue
                told = {"value": value}
                for function in (is_explained, order, refusal, first_refused, own_order, own_refusal):
                    self.refuse(InvalidThings, told, function, history=history, things=value)
                for function in (explains, is_refusal, explains_own, is_own_refusal):
                    self.refuse(InvalidThings, told, function, history=history, things=value, value=None)
                self.refuse(InvalidThings, told, can_answer, history=history, things=value, hand=None)

    def test_more_names_and_their_sequence(self):
        for entries, things in histories(30):
            more = {"zz": (COUNTER, 4), "a": "b", **{name: things[name] for name in sorted(things)[::-1]}}
            self.assertEqual(refusal(History(entries), more), refusal(History(entries), things))
            self.assertEqual(order(History(entries), more), order(History(entries), things))
        self.assertEqual(some_things(0), {"s": ""})


if __name__ == "__main__":
    unittest.main()

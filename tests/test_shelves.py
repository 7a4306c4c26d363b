"""[61], [62], [63]: runs of rules, step by step, and their histories."""

import unittest

from oneshelf.errors import InvalidRun
from oneshelf.histories import History
from oneshelf.rules import Rule
from oneshelf.shelves import calls, can_be_done, history, holding, is_run, losers, under_way
from oneshelf.trees import Tree
from support import Case, Dice, hash_of, junk, variants
from walked import Walk, some_rules, some_run, walk_run

PAIR, BOTH = Tree.of(1, 0, 1), Tree.of(2, 0, 1)
ALL = (holding, under_way, calls, history, losers)


def some_steps(walk):
    """Steps of all kinds, many of which cannot be done."""
    used = [call["value"] for call in walk.calls if call["word"] == "write"][:2]
    found = [("at", hand, house) for hand in (0, 1, 2, 3, 7, 8) for house in range(-1, 7)]
    found += [(word, hand) for word in ("read", "stop", "lose") for hand in (-1, 0, 1, 2, 3, 4, 5, 7, 8, True, False, None)]
    found += [("write", hand, text) for hand in (0, 1, 2, 7, 8, True) for text in
              used + ["new", "1234567", "12345678", "", "A", None, 0, ("new",), b"new"]]
    found += [["read", 0], ("read",), ("read", 0, "a"), ("write", 0), ("at", 0), ("at", 0, True), ("at", 0, None),
              ("at", 0, 0, 0), ("stop", 0, 0), ("lose", 0, 0), ("lose",), ("write", 0, "new", 0), ("at", 0, (0,)),
              (b"read", 0), ("reads", 0), ("lose", 0), ("stop", (0,))]
    return found + junk()


def runs(many=70):
    """Tuples of rules and runs."""
    rules = some_rules(many)
    return [(rule, some_run(rule, k, 4 + k % 40, 1 + k % 5, k % 3)) for k, rule in enumerate(rules)]


class TestExamples(Case):
    def test_the_document(self):
        rule = Rule(2, PAIR, BOTH, "one", "never")
        run = [("write", 0, "a"), ("at", 0, 0), ("read", 1), ("at", 1, 0), ("read", 1), ("at", 1, 1)]
        self.assertEqual([holding(rule, run), under_way(rule, run), calls(rule, run)[1]],
                         [[((1, 0), "a"), ((0, -1), "")], [(0, "put", [0])], (1, "read", "a", (1, 0), 2, 3)])
        self.assertEqual(history(rule, run), History([
            ("call", 0, "shelf", ("write", "a")), ("call", 1, "shelf", ("read",)), ("answer", 1, "a"),
            ("call", 1, "shelf", ("read",)), ("answer", 1, "")]))


class TestRuns(Case):
    def check(self, rule, run):
        """That all is told of a run as the tests walk it."""
        walk = walk_run(rule, run)
        self.assertIs(type(walk), Walk)
        told = {"rule": rule, "run": run}
        self.assertEqual(self.ask(holding, **told), [walk.held[house] for house in range(rule.houses)])
        self.assertEqual(self.ask(under_way, **told), walk.told_now())
        self.assertEqual(self.ask(calls, **told), walk.told_calls())
        self.assertEqual(self.ask(losers, **told), sorted(walk.lost))
        self.assertEqual(history(**told), History(walk.entries))
        self.assertEqual(history(rule, tuple(run)), History(walk.entries))
        self.assertIs(self.yes_or_no(is_run, rule=rule, value=run), True)
        self.assertIs(is_run(rule, tuple(run)), True)
        return walk

    def test_by_walking(self):
        seen = set()
        for rule, run in runs():
            for many in sorted({0, 1, 2, len(run) // 2, len(run) - 1, len(run)}):
                walk = self.check(rule, run[:max(many, 0)])
            seen |= {(rule.writers, call["word"], call["end"] is not None) for call in walk.calls}
            seen |= {now["half"] for now in walk.now.values()} | ({"stopped"} if walk.stopped else set())
        self.assertLessEqual({(writers, word, end) for writers in ("one", "many", "blind") for word in ("read", "write")
                              for end in (True, False)} | {"ask", "put", "stopped"}, seen)

    def test_what_can_be_done(self):
        for rule, run in runs(40):
            for many in {len(run), len(run) // 2, min(len(run), 3)}:
                walk = walk_run(rule, run[:many])
                for step in some_steps(walk):
                    told = self.yes_or_no(can_be_done, rule=rule, run=run[:many], value=step)
                    self.assertIs(told, walk.can(step), step)

    def test_wrong_runs(self):
        for rule, run in runs(24):
            values = variants(run[:8]) + [run + [None], run[:3] + [("lose", 5)] + run[3:], [("at", 0, 0)] + run]
            for value in values:
                walk = walk_run(rule, value)
                self.assertIs(is_run(rule, value), type(walk) is Walk, value)
                if type(walk) is Walk:
                    continue
                for function in ALL:
                    self.refuse(InvalidRun, {"position": walk}, function, rule=rule, run=value)
                self.refuse(InvalidRun, {"position": walk}, can_be_done, rule=rule, run=value, value=None)

    def test_any_value(self):
        rule = Rule(2, PAIR, BOTH)
        for value in junk() + [{0: ("read", 0)}, {("read", 0)}, "read", [("read", 0), None]]:
            walk = walk_run(rule, value)
            self.assertIs(self.yes_or_no(is_run, rule=rule, value=value), type(walk) is Walk, value)
            if type(walk) is not Walk:
                for function in ALL:
                    self.refuse(InvalidRun, {"position": walk}, function, rule=rule, run=value)
        self.assertFalse(hash_of([]))

    def test_words(self):
        for back, halves in (("never", 1), ("always", 2), ("if unlike", 2)):
            rule = Rule(2, BOTH, PAIR, "blind", back)
            run = [("write", 3, "a"), ("at", 3, 1), ("read", 0), ("at", 0, 0), ("at", 0, 1)]
            self.check(rule, run)
            ended = (0, "read", "a", (1, 3), 2, 4)
            if halves == 1:
                self.assertEqual(calls(rule, run)[1], ended)
            else:
                self.assertEqual(calls(rule, run)[1], (0, "read", None, (1, 3), 2, None))
                self.assertEqual(under_way(rule, run), [(0, "put", [])])
                self.assertEqual(calls(rule, run + [("at", 0, 0)])[1], (0, "read", "a", (1, 3), 2, 5))
                self.assertEqual(holding(rule, run + [("at", 0, 0)]), [((1, 3), "a")] * 2)
        rule = Rule(2, BOTH, PAIR, "one", "if unlike")
        self.assertEqual(calls(rule, [("read", 5), ("at", 5, 1), ("at", 5, 0)]), [(5, "read", "", (0, -1), 0, 2)])
        always = Rule(2, BOTH, PAIR, "one", "always")
        self.assertEqual(under_way(always, [("read", 5), ("at", 5, 1), ("at", 5, 0)]), [(5, "put", [])])

    def test_counts_of_tags(self):
        rule = Rule(2, PAIR, BOTH, "many", "never")
        run = [("write", 1, "a"), ("at", 1, 0), ("at", 1, 0), ("at", 1, 1), ("write", 0, "b"), ("at", 0, 1)]
        self.assertEqual([call[3] for call in calls(rule, run)], [(1, 1), (2, 0)])
        run += [("lose", 0), ("lose", 1), ("at", 0, 1), ("lose", 1), ("write", 1, "c"), ("at", 1, 1)]
        self.assertEqual([call[3] for call in calls(rule, run)], [(1, 1), (2, 0), (2, 1)])
        self.assertIsNone(calls(rule, run[:-1])[2][3])
        self.check(rule, run)
        blind = Rule(1, Tree(0), Tree(0), "blind", "never")
        run = [("write", 4, "a"), ("at", 4, 0), ("write", 4, "b"), ("at", 4, 0), ("write", 2, "c"), ("at", 2, 0),
               ("write", 5, "d"), ("at", 5, 0)]
        self.assertEqual([call[3] for call in calls(blind, run)], [(1, 4), (2, 4), (1, 2), (1, 5)])
        self.assertEqual(holding(blind, run), [((2, 4), "b")])

    def test_a_tag_that_is_not_greater(self):
        rule = Rule(1, Tree(0), Tree(0), "blind", "always")
        for hands, held in (((1, 2), ((1, 2), "b")), ((2, 1), ((1, 2), "a")), ((0, 7), ((1, 7), "b"))):
            run = [("write", hands[0], "a"), ("at", hands[0], 0), ("write", hands[1], "b"), ("at", hands[1], 0)]
            self.assertEqual(holding(rule, run), [held])
            self.check(rule, run)

    def test_stopped_hands(self):
        rule = Rule(2, PAIR, BOTH, "many", "always")
        run = [("write", 1, "a"), ("at", 1, 0), ("at", 1, 1), ("stop", 1), ("read", 0)]
        self.check(rule, run)
        for step in (("at", 1, 0), ("read", 1), ("write", 1, "b"), ("stop", 1), ("stop", 2), ("write", 2, "a")):
            self.assertIs(can_be_done(rule, run, step), False, step)
        self.assertEqual(under_way(rule, run), [(0, "ask", [])])
        self.assertEqual(history(rule, run), History([("call", 1, "shelf", ("write", "a")),
                                                      ("call", 0, "shelf", ("read",))]))
        self.assertEqual(calls(rule, run)[0], (1, "write", "a", (1, 1), 0, None))

    def test_a_house_that_loses_while_a_call_is_at_it(self):
        rule = Rule(3, Tree.of(2, 0, 1, 2), Tree.of(2, 0, 1, 2), "one", "if unlike")
        run = [("write", 0, "a"), ("at", 0, 0), ("lose", 0), ("at", 0, 1), ("read", 1), ("at", 1, 0), ("lose", 1),
               ("at", 1, 2)]
        self.check(rule, run)
        self.assertEqual((losers(rule, run), calls(rule, run)[1][2]), ([0, 1], ""))
        self.assertEqual(losers(rule, run + [("lose", 1), ("lose", 0)]), [0, 1])
        self.assertEqual(losers(rule, [("lose", 2), ("lose", 0), ("lose", 2), ("lose", 1)]), [0, 1, 2])

    def test_houses_of_no_meeting(self):
        rule = Rule(4, Tree(1), Tree.of(1, 2, Tree.of(2, 2, 3)), "one", "always")
        for house in range(4):
            self.assertIs(can_be_done(rule, [("read", 0)], ("at", 0, house)), house == 1)
            self.assertIs(can_be_done(rule, [("write", 0, "a")], ("at", 0, house)), house == 2)
            self.assertIs(can_be_done(rule, [], ("lose", house)), True)
        self.assertIs(can_be_done(rule, [], ("lose", 4)), False)

    def test_two_hundred_steps(self):
        rule = Rule(1, Tree(0), Tree(0), "one", "never")
        run = [step for k in range(100) for step in (("read", k % 8), ("at", k % 8, 0))]
        self.check(rule, run)
        self.assertEqual(len(history(rule, run).entries()), 200)
        for step in (("lose", 0), ("read", 0), ("write", 0, "a")):
            self.assertIs(can_be_done(rule, run, step), False)
            self.assertIs(can_be_done(rule, run[:-2], step), True)
            self.assertIs(is_run(rule, run + [step]), False)
            for function in ALL:
                self.refuse(InvalidRun, {"position": None}, function, rule=rule, run=run + [step])
            self.refuse(InvalidRun, {"position": None}, can_be_done, rule=rule, run=run + [step], value=step)
            self.refuse(InvalidRun, {"position": None}, holding, rule=rule, run=[None] + run)
            self.refuse(InvalidRun, {"position": 0}, holding, rule=rule, run=[None] + run[1:])
        long_ones = some_run(Rule(5, Tree.of(3, *range(5)), Tree.of(3, *range(5)), "many", "always"), 3, 200, 8, 2)
        self.check(Rule(5, Tree.of(3, *range(5)), Tree.of(3, *range(5)), "many", "always"), long_ones)

    def test_what_was_told_is_changed(self):
        rule = Rule(2, PAIR, BOTH, "many", "always")
        run = [("write", 1, "a"), ("at", 1, 0), ("at", 1, 1)]
        for function in (holding, under_way, calls, losers):
            told = function(rule, run)
            first = repr(told)
            told.append(None)
            if function is under_way:
                told[0][2].append(9)
            self.assertEqual(repr(function(rule, run)), first)
        self.assertEqual(run, [("write", 1, "a"), ("at", 1, 0), ("at", 1, 1)])
        self.assertEqual(Dice(1).below(1), 0)


if __name__ == "__main__":
    unittest.main()

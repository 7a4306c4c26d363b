"""[4], [64], [65], [67]: wrong runs of rules that are not right, and late runs of those that are not regular."""

import unittest

from oneshelf.errors import InvalidNumber, TooMany
from oneshelf.failures import OtherWriters
from oneshelf.rules import Rule
from oneshelf.trees import Tree
from oneshelf.wrongruns import is_late_run, is_wrong_run, late_run, wrong_run
from support import Case, Dice, is_int, junk, variants
from test_rules import judge_right, lots
from test_tagged import own_explained, own_missed
from walked import BACKS, WRITERS, Walk, some_rules, some_run, some_trees_of, walk_run

PAIR, BOTH = Tree.of(1, 0, 1), Tree.of(2, 0, 1)


def judge_wrong_run(rule, value, losing):
    walk = walk_run(rule, value)
    return type(walk) is Walk and len(walk.lost) <= losing and not own_explained(walk)


def judge_late_run(rule, number, value):
    walk = walk_run(rule, value)
    if type(walk) is not Walk or walk.lost:
        return False
    return any(count is not None and count >= number for count in own_missed(walk))


def mixed_rules(many):
    """Rules with trees in which houses are at several leaves."""
    found = []
    for seed in range(many):
        dice, houses = Dice(seed + 50), 2 + seed % 4

        def some_shape(deep):
            if deep == 0 or dice.below(3) == 0:
                return dice.below(houses)
            parts = [some_shape(deep - 1) for _ in range(1 + dice.below(4))]
            return ("of", 1 + dice.below(len(parts)), parts)

        found.append(Rule(houses, Tree(some_shape(2)), Tree(some_shape(2)), dice.one_of(WRITERS[:2]), dice.one_of(BACKS)))
    return found


class TestWrongRuns(Case):
    def check(self, rule, losing):
        """That the rule has a wrong run exactly if it is not right; whether it is."""
        right = judge_right(rule, losing)
        run = self.ask(wrong_run, rule=rule, losing=losing)
        if right:
            self.assertIsNone(run)
            return True
        self.assertIs(type(run), list)
        self.assertTrue(judge_wrong_run(rule, run, losing), (rule, losing, run))
        self.assertIs(self.yes_or_no(is_wrong_run, rule=rule, value=run, losing=losing), True)
        self.assertIs(is_wrong_run(rule, tuple(run), losing), True)
        return False

    def test_the_document(self):
        rule = Rule(2, PAIR, BOTH, "one", "never")
        run = [("write", 0, "a"), ("at", 0, 0), ("read", 1), ("at", 1, 0), ("read", 1), ("at", 1, 1)]
        self.assertIs(is_wrong_run(rule, run), True)
        self.assertIs(is_wrong_run(rule, run[:-1]), False)

    def test_rules_of_one_to_five_houses(self):
        seen = set()
        for rule in some_rules(260) + mixed_rules(120):
            for losing in range(rule.houses + 1):
                seen.add((self.check(rule, losing), rule.writers, rule.back, min(losing, 1)))
            self.assertEqual(wrong_run(rule), wrong_run(rule, 0))
        for writers in ("one", "many"):
            for back in BACKS:
                for losing in (0, 1):
                    self.assertIn((False, writers, back, losing), seen)
                    if back != "never" or losing == 0:
                        self.assertIn((True, writers, back, losing), seen)
        self.assertNotIn(True, [right for right, writers, _, _ in seen if writers == "blind"])

    def test_all_words_of_some_trees(self):
        for houses in (1, 2, 3, 4):
            for reading in some_trees_of(houses)[::2]:
                for writing in some_trees_of(houses)[1::2]:
                    for writers in WRITERS:
                        for back in BACKS:
                            for losing in (0, 1, houses):
                                self.check(Rule(houses, reading, writing, writers, back), losing)

    def test_either_a_right_paper_or_a_wrong_run(self):
        for seed, rule in enumerate(some_rules(120)):
            for losing in (0, 1):
                for k in range(3):
                    run = some_run(rule, seed * 5 + k, 24, 2 + k, losing)
                    walk = walk_run(rule, run)
                    if len(walk.calls) > 9:
                        continue
                    wrong = judge_wrong_run(rule, run, losing)
                    self.assertIs(is_wrong_run(rule, run, losing), wrong)
                    self.assertFalse(wrong and judge_right(rule, losing))

    def test_what_is_a_wrong_run(self):
        seen = set()
        for rule in some_rules(60):
            for losing in (0, 1):
                run = wrong_run(rule, losing)
                for value in [] if run is None else variants(run)[:60]:
                    wrong = judge_wrong_run(rule, value, losing)
                    self.assertIs(is_wrong_run(rule, value, losing), wrong, value)
                    seen.add(wrong)
                for value in junk() + [[], [("lose", 0)]]:
                    self.assertIs(self.yes_or_no(is_wrong_run, rule=rule, value=value, losing=losing), False)
        self.assertEqual(seen, {True, False})

    def test_losses_are_counted_by_houses(self):
        rule = Rule(2, BOTH, BOTH, "one", "always")
        run = [("write", 0, "a"), ("at", 0, 0), ("at", 0, 1), ("lose", 0), ("lose", 1), ("lose", 0), ("read", 1),
               ("at", 1, 0), ("at", 1, 1), ("at", 1, 0), ("at", 1, 1)]
        self.assertEqual([is_wrong_run(rule, run, losing) for losing in (0, 1, 2)], [False, False, True])
        once = run[:4] + run[6:]
        self.assertEqual([is_wrong_run(rule, once, losing) for losing in (0, 1, 2)], [False, False, False])

    def test_long_runs(self):
        rule = Rule(1, Tree(0), Tree(0), "one", "never")
        run = [("write", 0, "a"), ("at", 0, 0), ("lose", 0), ("read", 1), ("at", 1, 0)]
        run += [("lose", 0)] * 195
        self.assertIs(is_wrong_run(rule, run, 1), True)
        self.assertIs(is_wrong_run(rule, run, 0), False)
        self.assertIs(is_wrong_run(rule, run + [("lose", 0)], 1), False)

    def test_wrong_numbers(self):
        for rule in some_rules(6):
            for value in junk() + [rule.houses, rule.houses + 1]:
                if not (is_int(value) and 0 <= value <= rule.houses):
                    told = {"value": value}
                    self.refuse(InvalidNumber, told, wrong_run, rule=rule, losing=value)
                    for run in (None, [], [None]):
                        self.refuse(InvalidNumber, told, is_wrong_run, rule=rule, value=run, losing=value)


class TestLateRuns(Case):
    def test_for_numbers(self):
        seen = set()
        for rule in some_rules(150) + mixed_rules(40):
            if rule.writers != "one":
                continue
            regular = all(one & other for one in lots(rule.reading) for other in lots(rule.writing))
            for number in (0, 1, 2, 7, 29, 30):
                run = self.ask(late_run, rule=rule, number=number)
                seen.add((run is None, rule.back))
                if regular and number > 0:
                    self.assertIsNone(run)
                    continue
                self.assertIs(type(run), list)
                self.assertTrue(judge_late_run(rule, number, run), (rule, number))
                self.assertIs(self.yes_or_no(is_late_run, rule=rule, number=number, value=run), True)
        self.assertEqual(len(seen), 6)

    def test_five_houses_and_thirty_writes(self):
        for back in BACKS:
            for reading, writing in ((Tree(4), Tree.of(4, 0, 1, 2, 3)), (Tree.of(4, 1, 2, 3, 4), Tree(0)),
                                     (Tree.of(1, 3, Tree.of(2, 0, 4)), Tree.of(1, Tree.of(3, 0, 1, 2), Tree.of(2, 3, 4)))):
                rule = Rule(5, reading, writing, "one", back)
                run = late_run(rule, 30)
                self.assertTrue(judge_late_run(rule, 30, run))
                self.assertIs(is_late_run(rule, 30, run), True)
                self.assertIs(is_late_run(rule, 31, run), judge_late_run(rule, 31, run))
                self.refuse(TooMany, {"what": "writes", "limit": 30}, late_run, rule=rule, number=31)
                self.refuse(TooMany, {"what": "writes", "limit": 30}, late_run, rule=rule, number=10 ** 20)

    def test_regular_rules(self):
        rule = Rule(2, PAIR, BOTH, "one", "never")
        self.assertIsNone(late_run(rule, 1))
        self.assertTrue(judge_late_run(rule, 0, late_run(rule, 0)))
        self.refuse(TooMany, {"what": "writes", "limit": 30}, late_run, rule=rule, number=31)

    def test_what_is_a_late_run(self):
        rule = Rule(2, Tree(1), Tree(0), "one", "never")
        run = [("write", 0, "a"), ("at", 0, 0), ("read", 1), ("write", 0, "b"), ("at", 0, 0), ("at", 1, 1)]
        self.assertEqual([is_late_run(rule, number, run) for number in (0, 1, 2)], [True, True, False])
        self.assertEqual([is_late_run(rule, number, run[:-1]) for number in (0, 1)], [False, False])
        self.assertEqual([is_late_run(rule, number, run + [("lose", 1)]) for number in (0, 1)], [False, False])
        self.assertIs(is_late_run(rule, 10 ** 20, run), False)
        for number in (0, 1, 2):
            for value in variants(run) + junk() + [[], None]:
                self.assertIs(self.yes_or_no(is_late_run, rule=rule, number=number, value=value),
                              judge_late_run(rule, number, value), value)

    def test_errors(self):
        for rule in some_rules(40):
            for value in junk():
                if rule.writers != "one":
                    told = {"value": rule.writers}
                    self.refuse(OtherWriters, told, late_run, rule=rule, number=value)
                    self.refuse(OtherWriters, told, is_late_run, rule=rule, number=value, value=None)
                elif not (is_int(value) and value >= 0):
                    self.refuse(InvalidNumber, {"value": value}, late_run, rule=rule, number=value)
                    self.refuse(InvalidNumber, {"value": value}, is_late_run, rule=rule, number=value, value=[])


if __name__ == "__main__":
    unittest.main()

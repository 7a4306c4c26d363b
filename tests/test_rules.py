"""[4], [61], [64], [65], [67]: rules, which of them are right, right papers, regular rules."""

import unittest

from oneshelf.errors import InvalidCount, InvalidNumber, InvalidTree, InvalidWord
from oneshelf.failures import OtherWriters
from oneshelf.rules import Rule, is_regular, is_right, is_right_paper, right_paper
from oneshelf.trees import Tree
from oneshelf.zones import is_plain_explained
from oneshelf.shelves import history
from support import Case, is_int, is_listy, junk, variants
from test_meetings import try_meetings
from walked import BACKS, WRITERS, some_rules, some_run, some_trees_of

PAIR = Tree.of(1, 0, 1)


def lots(tree):
    return [set(houses) for houses in try_meetings(tree)]


def judge_right(rule, losing):
    """Whether a rule is right, by the sets of its houses."""
    reading, writing = lots(rule.reading), lots(rule.writing)
    written = set().union(*writing)
    if rule.writers == "blind" or not all(len(one & other) > losing for one in reading for other in writing):
        return False
    if rule.back == "never":
        return losing == 0 and len({frozenset(one & written) for one in reading}) == 1
    return rule.back == "always" or all(len(one & other) > losing for one in reading for other in reading
                                        if one <= written and one != other)


def try_paper(rule):
    """What a right paper would tell."""
    reading, writing = try_meetings(rule.reading), try_meetings(rule.writing)
    written = {house for houses in writing for house in houses}
    pairs = sorted((tuple(one), tuple(other), sorted(set(one) & set(other))) for one in reading for other in writing)
    others = {"always": [], "never": sorted((tuple(one), sorted(set(one) & written)) for one in reading),
              "if unlike": sorted((tuple(one), tuple(other), sorted(set(one) & set(other))) for one in reading
                                  for other in reading if set(one) <= written and one != other)}
    return (pairs, others[rule.back])


def same(value, wanted):
    """Whether a value is what is wanted, lists or tuples for its lists."""
    if is_int(wanted):
        return is_int(value) and value == wanted
    if not (type(value) is tuple if type(wanted) is tuple else is_listy(value)) or len(value) != len(wanted):
        return False
    return all(same(part, other) for part, other in zip(value, wanted))


def loosened(value):
    """A paper with tuples for its lists."""
    if is_int(value):
        return value
    return tuple(loosened(part) for part in value)


class TestRule(Case):
    def test_parts(self):
        for rule in some_rules(60):
            passed = {"houses": rule.houses, "reading": rule.reading, "writing": rule.writing, "writers": rule.writers,
                      "back": rule.back}
            for same_rule in (Rule(**passed), Rule(*passed.values())):
                self.assertTrue(same_rule == rule)
                self.assertEqual(repr(same_rule), f"Rule({rule.houses}, {rule.reading!r}, {rule.writing!r}, "
                                                  f"{rule.writers!r}, {rule.back!r})")
            self.assertEqual(eval(repr(rule)), rule)
            reading, writing = try_meetings(rule.reading), try_meetings(rule.writing)
            self.assertEqual(self.ask(rule.reading_meetings), [tuple(houses) for houses in reading])
            self.assertEqual(self.ask(rule.writing_meetings), [tuple(houses) for houses in writing])
            self.assertEqual(self.ask(rule.written), sorted({house for houses in writing for house in houses}))
        self.assertEqual(repr(Rule(3, Tree.of(2, 0, 1, 2), Tree(0))),
                         "Rule(3, Tree(('of', 2, [0, 1, 2])), Tree(0), 'one', 'always')")
        self.assertEqual((Rule(1, Tree(0), Tree(0)).writers, Rule(1, Tree(0), Tree(0)).back), ("one", "always"))
        self.assertEqual(Rule(2, PAIR, Tree.of(1, 0, Tree.of(2, 0, 1))).written(), [0])

    def test_wrong_houses(self):
        for value in junk() + [6, 5]:
            if not (is_int(value) and 1 <= value <= 5):
                self.refuse(InvalidCount, {"value": value}, Rule, houses=value, reading=None, writing=Tree(9),
                            writers="x", back="x")
        for houses in range(1, 6):
            self.assertEqual(Rule(houses, Tree(0), Tree(houses - 1)).houses, houses)

    def test_wrong_trees(self):
        for value in [other for other in junk() if not isinstance(other, Tree)] + [
                0, ("of", 1, [0]), Tree(3), Tree(23), Tree.of(1, 0, 3), Tree.of(2, 0, Tree.of(1, 1, 5))]:
            told = {"value": value}
            self.refuse(InvalidTree, told, Rule, houses=3, reading=value, writing=None, writers="x", back=0)
            self.refuse(InvalidTree, told, Rule, houses=3, reading=Tree(2), writing=value, writers="x", back=0)
        for houses in range(1, 5):
            self.refuse(InvalidTree, {"value": Tree(houses)}, Rule, houses=houses, reading=Tree(houses), writing=Tree(0))

    def test_wrong_words(self):
        for value in junk() + ["", "One", "two", "never", "all ways", "if unlike"]:
            told = {"houses": 1, "reading": Tree(0), "writing": Tree(0)}
            if value not in WRITERS:
                self.refuse(InvalidWord, {"value": value}, Rule, **told, writers=value, back=None)
        for value in junk() + ["", "one", "many", "Always", "if", "unlike", "ifunlike"]:
            self.refuse(InvalidWord, {"value": value}, Rule, **told, writers="many", back=value)

    def test_equality(self):
        rules = some_rules(40) + [Rule(3, PAIR, PAIR, writers, back) for writers in WRITERS for back in BACKS]
        rules += [Rule(2, PAIR, PAIR), Rule(2, PAIR, ~PAIR), Rule(2, ~PAIR, PAIR)]
        for one in rules:
            for value in junk() + [repr(one), one.reading]:
                self.assertIs(one == value, False)
            for other in rules:
                self.assertIs(one == other, repr(one) == repr(other))
                self.assertIs(one != other, repr(one) != repr(other))


class TestRight(Case):
    def test_the_document(self):
        self.assertEqual([is_right(Rule(2, PAIR, Tree.of(2, 0, 1), "one", back)) for back in BACKS], [False, True, False])
        self.assertEqual(self.ask(right_paper, rule=Rule(2, PAIR, Tree.of(2, 0, 1))),
                         ([((0,), (0, 1), [0]), ((1,), (0, 1), [1])], []))

    def test_by_sets_of_houses(self):
        seen = set()
        for rule in some_rules():
            for losing in range(rule.houses + 1):
                right = judge_right(rule, losing)
                self.assertIs(self.yes_or_no(is_right, rule=rule, losing=losing), right)
                told = self.ask(right_paper, rule=rule, losing=losing)
                self.assertEqual(told, try_paper(rule) if right else None)
                paper = try_paper(rule)
                for value in (paper, loosened(paper), (list(paper[0]), tuple(paper[1]))):
                    self.assertIs(self.yes_or_no(is_right_paper, rule=rule, value=value, losing=losing), right)
                seen.add((right, min(losing, 2), rule.back))
            self.assertIs(is_right(rule), judge_right(rule, 0))
            self.assertEqual(right_paper(rule), right_paper(rule, 0))
            self.assertIs(is_right_paper(rule, try_paper(rule)), judge_right(rule, 0))
        for back in BACKS:
            self.assertLessEqual({(True, 0, back), (False, 0, back), (False, 1, back)}, seen)
        self.assertLessEqual({(True, 1, "always"), (True, 1, "if unlike"), (True, 2, "always")}, seen)
        self.assertNotIn((True, 1, "never"), seen)

    def test_all_words_of_some_trees(self):
        for houses in (1, 2, 3, 4):
            for reading in some_trees_of(houses):
                for writing in some_trees_of(houses)[::2]:
                    for writers in WRITERS:
                        for back in BACKS:
                            rule = Rule(houses, reading, writing, writers, back)
                            for losing in (0, 1, houses):
                                self.assertIs(is_right(rule, losing), judge_right(rule, losing))

    def test_what_is_a_paper(self):
        for rule in some_rules(120)[::3]:
            for losing in (0, 1):
                paper = try_paper(rule)
                right = judge_right(rule, losing)
                for value in variants(paper)[:150]:
                    self.assertIs(is_right_paper(rule, value, losing), right and same(value, paper), value)
                for value in junk():
                    self.assertIs(self.yes_or_no(is_right_paper, rule=rule, value=value, losing=losing), False, value)

    def test_edges(self):
        one = Rule(1, Tree(0), Tree(0), "one", "never")
        self.assertEqual([is_right(one), is_right(one, 1), is_right(Rule(1, Tree(0), Tree(0)), 1)], [True, False, False])
        whole = Tree.of(5, *range(5))
        for back in ("always", "if unlike"):
            rule = Rule(5, whole, whole, "many", back)
            self.assertEqual([is_right(rule, losing) for losing in range(6)], [True] * 5 + [False])
            three = Rule(5, Tree.of(3, *range(5)), Tree.of(3, *range(5)), "one", back)
            self.assertEqual([is_right(three, losing) for losing in range(3)], [True, False, False])
            four = Rule(5, Tree.of(4, *range(5)), Tree.of(3, *range(5)), "one", back)
            self.assertEqual([is_right(four, losing) for losing in range(4)], [True, True, False, False])
        # Reading meetings that are not within what is written need not meet.
        apart = Rule(3, Tree.of(2, 0, Tree.of(1, 1, 2)), Tree(0), "one", "if unlike")
        self.assertEqual(right_paper(apart), ([((0, 1), (0,), [0]), ((0, 2), (0,), [0])], []))
        never = Rule(3, Tree.of(2, 0, Tree.of(1, 1, 2)), Tree(0), "many", "never")
        self.assertEqual(right_paper(never), ([((0, 1), (0,), [0]), ((0, 2), (0,), [0])], [((0, 1), [0]), ((0, 2), [0])]))
        within = Rule(4, Tree.of(1, Tree.of(2, 0, 1), Tree.of(2, 2, 3)), Tree.of(4, 0, 1, 2, 3), "one", "if unlike")
        self.assertIs(is_right(within), False)
        self.assertIs(is_right(Rule(4, within.reading, within.writing, "one", "always")), True)

    def test_right_rules_explain_their_runs(self):
        wrong = 0
        for seed, rule in enumerate(some_rules(150)):
            for losing in (0, 1, 2):
                if losing > rule.houses:
                    continue
                for k in range(3):
                    run = some_run(rule, seed * 7 + k, 40, 2 + seed % 4, losing)
                    fine = is_plain_explained(history(rule, run), {"shelf": ""}) if history(rule, run).names() else True
                    if is_right(rule, losing):
                        self.assertIs(fine, True)
                    wrong += not fine
        self.assertGreater(wrong, 20)

    def test_wrong_numbers(self):
        for rule in some_rules(5):
            for value in junk() + [rule.houses, rule.houses + 1]:
                if not (is_int(value) and 0 <= value <= rule.houses):
                    told = {"value": value}
                    self.refuse(InvalidNumber, told, is_right, rule=rule, losing=value)
                    self.refuse(InvalidNumber, told, right_paper, rule=rule, losing=value)
                    self.refuse(InvalidNumber, told, is_right_paper, rule=rule, value=None, losing=value)


class TestRegular(Case):
    def test_by_sets_of_houses(self):
        seen = set()
        for rule in some_rules():
            if rule.writers != "one":
                self.refuse(OtherWriters, {"value": rule.writers}, is_regular, rule=rule)
                continue
            right = all(one & other for one in lots(rule.reading) for other in lots(rule.writing))
            self.assertIs(self.yes_or_no(is_regular, rule=rule), right)
            seen.add((right, rule.back))
        self.assertEqual(len(seen), 6)

    def test_other_writers(self):
        for writers in ("many", "blind"):
            self.refuse(OtherWriters, {"value": writers}, is_regular, rule=Rule(1, Tree(0), Tree(0), writers, "never"))


if __name__ == "__main__":
    unittest.main()

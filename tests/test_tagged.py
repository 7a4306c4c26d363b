"""[61] to [66], [67]: the tag order of runs, what reads miss, which runs are explained, and which are regular."""

import unittest

from oneshelf.errors import InvalidRun
from oneshelf.failures import OtherWriters
from oneshelf.rules import Rule
from oneshelf.tagged import is_explained_run, is_regular_run, missed, tag_order
from oneshelf.trees import Tree
from recalled import explained, judge_order
from support import Case, junk, variants
from test_rules import judge_right
from walked import Walk, some_rules, some_run, walk_run

PAIR, BOTH = Tree.of(1, 0, 1), Tree.of(2, 0, 1)
ALL = (tag_order, is_explained_run, missed, is_regular_run)


def ended(call, word):
    return call["word"] == word and call["end"] is not None


def own_tag_order(walk):
    """The tag order, put together tag by tag."""
    tags = sorted({call["tag"] for call in walk.calls if call["tag"] is not None})
    found = []
    for tag in tags:
        mine = [(k, call) for k, call in enumerate(walk.calls) if call["tag"] == tag]
        reads = [k for k, call in mine if ended(call, "read")]
        writes = [k for k, call in mine if call["word"] == "write" and (ended(call, "write") or reads)]
        found += writes + reads
    return found


def own_missed(walk):
    found = []
    for read in walk.calls:
        if not ended(read, "read"):
            found.append(None)
            continue
        found.append(0)
        for write in walk.calls:
            if ended(write, "write") and write["end"] < read["begin"] and write["tag"] > read["tag"]:
                found[-1] += 1
    return found


def own_regular(walk):
    """Whether each read tells what some moment between its begin and its end could tell if writes were done at once."""
    for read in walk.calls:
        if not ended(read, "read"):
            continue
        last = ""
        may = []
        for write in walk.calls:
            if write["word"] == "write" and ended(write, "write") and write["end"] < read["begin"]:
                last = write["value"]
        for write in walk.calls:
            over = ended(write, "write") and write["end"] < read["begin"]
            if write["word"] == "write" and not over and write["begin"] < read["end"]:
                may.append(write["value"])
        if read["value"] not in [last] + may:
            return False
    return True


def own_explained(walk):
    return explained(walk.entries, {"shelf": ""})


def some_walks(many=160):
    """Tuples of rules, runs and their walks; few calls, so that all orders can be tried."""
    found = []
    for k, rule in enumerate(some_rules(many)):
        for losing in (0, 1 + k % 2):
            run = some_run(rule, 3 * k + losing, 6 + k % 30, 1 + k % 4, losing)
            found.append((rule, run, walk_run(rule, run)))
    return found


class TestTagged(Case):
    def test_the_document(self):
        rule = Rule(2, PAIR, BOTH, "one", "never")
        run = [("write", 0, "a"), ("at", 0, 0), ("read", 1), ("at", 1, 0), ("read", 1), ("at", 1, 1)]
        self.assertEqual([is_explained_run(rule, run), tag_order(rule, run), missed(rule, run)],
                         [False, [2, 0, 1], [None, 0, 0]])

    def test_by_walking(self):
        seen = set()
        for rule, run, walk in some_walks():
            told = {"rule": rule, "run": run}
            self.assertEqual(self.ask(tag_order, **told), own_tag_order(walk))
            self.assertEqual(tag_order(rule, tuple(run)), own_tag_order(walk))
            if len(walk.calls) <= 9:
                fine = own_explained(walk)
                self.assertIs(self.yes_or_no(is_explained_run, **told), fine)
                seen.add(fine)
            if rule.writers == "one":
                self.assertEqual(self.ask(missed, **told), own_missed(walk))
                self.assertIs(self.yes_or_no(is_regular_run, **told), own_regular(walk))
                seen |= {("missed", min(count or 0, 2)) for count in own_missed(walk)} | {("regular", own_regular(walk))}
        self.assertLessEqual({True, False, ("missed", 1), ("missed", 2), ("regular", True), ("regular", False)}, seen)

    def test_the_tag_order_explains_runs_of_right_rules(self):
        seen, turned = 0, 0
        for k, rule in enumerate(some_rules(300)):
            for losing in (0, 1, 2):
                if losing > rule.houses:
                    continue
                run = some_run(rule, 5 * k + losing, 60, 2 + k % 5, losing)
                walk = walk_run(rule, run)
                fine = judge_order(walk.entries, {"shelf": ""}, tag_order(rule, run))
                if judge_right(rule, losing):
                    self.assertIs(fine, True)
                    self.assertIs(is_explained_run(rule, run), True)
                    seen += 1
                turned += not fine
        self.assertGreater(seen, 60)
        self.assertGreater(turned, 60)

    def test_what_regular_rules_tell(self):
        seen = set()
        for k, rule in enumerate(some_rules(300)):
            if rule.writers != "one":
                continue
            regular = all(set(one) & set(other) for one in rule.reading_meetings() for other in rule.writing_meetings())
            run = some_run(rule, 11 * k, 50, 3)
            if regular:
                self.assertIs(is_regular_run(rule, run), True)
                self.assertLessEqual(set(missed(rule, run)), {None, 0})
            seen.add((regular, is_regular_run(rule, run)))
        self.assertEqual(seen, {(True, True), (False, True), (False, False)})

    def test_runs_without_calls(self):
        for run in ([], (), [("lose", 0), ("lose", 1), ("lose", 0)]):
            rule = Rule(2, PAIR, BOTH)
            self.assertEqual([function(rule, run) for function in ALL], [[], True, [], True])

    def test_a_write_that_stopped(self):
        rule = Rule(2, PAIR, BOTH, "one", "never")
        begun = [("write", 0, "a"), ("at", 0, 0), ("stop", 0)]
        self.assertEqual([function(rule, begun) for function in ALL], [[], True, [None], True])
        told = begun + [("read", 1), ("at", 1, 0)]
        self.assertEqual([function(rule, told) for function in ALL], [[0, 1], True, [None, 0], True])
        other = begun + [("read", 1), ("at", 1, 1)]
        self.assertEqual([function(rule, other) for function in ALL], [[1], True, [None, 0], True])
        stopped = begun + [("read", 1), ("stop", 1)]
        self.assertEqual([function(rule, stopped) for function in ALL], [[], True, [None, None], True])
        back = Rule(2, PAIR, BOTH, "one", "always")
        half = begun + [("read", 1), ("at", 1, 0)]
        self.assertEqual([function(back, half) for function in ALL], [[], True, [None, None], True])

    def test_reads_that_overlap_a_write(self):
        rule = Rule(2, PAIR, BOTH, "one", "never")
        run = [("read", 1), ("write", 0, "a"), ("at", 0, 0), ("at", 0, 1), ("at", 1, 1)]
        self.assertEqual([function(rule, run) for function in ALL], [[1, 0], True, [0, None], True])
        first = [("read", 2), ("write", 0, "a"), ("at", 0, 0), ("read", 1), ("at", 1, 0), ("at", 2, 1), ("at", 0, 1)]
        self.assertEqual([function(rule, first) for function in ALL], [[0, 1, 2], True, [0, None, 0], True])
        both = Rule(2, PAIR, PAIR, "one", "never")
        late = [("write", 0, "a"), ("at", 0, 0), ("write", 0, "b"), ("at", 0, 0), ("read", 1), ("at", 1, 1)]
        self.assertEqual([function(both, late) for function in ALL], [[2, 0, 1], False, [None, None, 2], False])
        again = late[:-2] + [("write", 0, "c"), ("read", 1), ("at", 1, 1), ("at", 0, 0)]
        self.assertEqual([function(both, again) for function in ALL], [[3, 0, 1, 2], False, [None, None, None, 2], False])
        lost = late[:4] + [("read", 1), ("at", 1, 0), ("lose", 0), ("read", 1), ("at", 1, 0)]
        self.assertEqual([function(both, lost) for function in ALL], [[3, 0, 1, 2], False, [None, None, 0, 2], False])

    def test_the_text_that_no_write_wrote(self):
        rule = Rule(1, Tree(0), Tree(0), "one", "always")
        run = [("read", 3), ("at", 3, 0), ("at", 3, 0), ("write", 0, "a"), ("read", 5), ("at", 5, 0), ("at", 5, 0),
               ("at", 0, 0), ("read", 2), ("at", 2, 0), ("at", 2, 0)]
        self.assertEqual([function(rule, run) for function in ALL], [[0, 2, 1, 3], True, [0, None, 0, 0], True])

    def test_long_runs(self):
        rule = Rule(1, Tree(0), Tree(0), "one", "never")
        run = [step for k in range(50) for step in (("write", 0, f"v{k}"), ("at", 0, 0), ("read", 1), ("at", 1, 0))]
        self.assertEqual([function(rule, run) for function in ALL],
                         [list(range(100)), True, [None, 0] * 50, True])
        for function in ALL:
            self.refuse(InvalidRun, {"position": None}, function, rule=rule, run=run + [("lose", 0)])
            self.refuse(InvalidRun, {"position": None}, function, rule=rule, run=tuple(run + [None]))
        lost = [step for step in run[:-4]] + [("lose", 0), ("read", 1), ("at", 1, 0)]
        self.assertEqual(missed(rule, lost)[-1], 49)
        self.assertEqual([is_explained_run(rule, lost), is_regular_run(rule, lost)], [False, False])

    def test_wrong_runs(self):
        for rule in some_rules(24):
            run = some_run(rule, 4, 8)
            for value in junk() + variants(run[:5]) + [run + [("at", 7, 0)], [("lose", 0), ["lose", 0]]]:
                walk = walk_run(rule, value)
                if type(walk) is Walk:
                    self.assertEqual(tag_order(rule, value), own_tag_order(walk))
                    continue
                for function in (tag_order, is_explained_run):
                    self.refuse(InvalidRun, {"position": walk}, function, rule=rule, run=value)
                for function in (missed, is_regular_run):
                    if rule.writers == "one":
                        self.refuse(InvalidRun, {"position": walk}, function, rule=rule, run=value)
                    else:
                        self.refuse(OtherWriters, {"value": rule.writers}, function, rule=rule, run=value)

    def test_other_writers(self):
        for writers in ("many", "blind"):
            rule = Rule(1, Tree(0), Tree(0), writers, "never")
            for run in ([], [("write", 1, "a"), ("stop", 1)], None, [None]):
                for function in (missed, is_regular_run):
                    self.refuse(OtherWriters, {"value": writers}, function, rule=rule, run=run)


if __name__ == "__main__":
    unittest.main()

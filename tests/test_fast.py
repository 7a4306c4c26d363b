"""[76]: fast councils, what may be chosen, doubts, and what ballots pick."""

import itertools
import unittest

from balloted import some_councils, tuples_of, wide_tree
from oneshelf.errors import InvalidAsked, InvalidOwn, InvalidReplies, TooMany
from oneshelf.failures import InDoubt
from oneshelf.fast import Fast, doubt, is_doubt, is_sure, may_be_chosen, picked
from oneshelf.trees import Tree
from support import Case, Dice, is_int, is_listy, junk, variants
from test_records import not_up

FOUR = Fast(Tree.of(3, 0, 1, 2, 3), Tree.of(3, 0, 1, 2, 3))


def some_fasts():
    found = [Fast(council.promise, council.accept) for council in some_councils(100)]
    for houses in range(1, 6):
        for need in range(1, houses + 1):
            for more in range(1, houses + 1):
                found.append(Fast(Tree.of(need, *range(houses)), Tree.of(more, *range(houses))))
    return found


def own_sure(fast):
    firsts = tuples_of(fast.first)
    return all(set(asked) & set(one) & set(other) for asked in tuples_of(fast.promise) for one in firsts
               for other in firsts)


def is_text(value):
    return type(value) is str and len(value) <= 8 and all(sign in "abcdefghijklmnopqrstuvwxyz0123456789" for sign in value)


def judge_accepted(houses, value):
    return type(value) is dict and all(is_int(key) for key in value) and set(value) == set(houses) and all(
        part is None or is_text(part) for part in value.values())


def chosen_by(fast, accepted):
    return {accepted[meeting[0]] for meeting in tuples_of(fast.first)
            if len({accepted[house] for house in meeting}) == 1} - {None}


def judge_doubt(fast, value):
    if type(value) is not tuple or len(value) != 3:
        return False
    asked, one, other = value
    if type(asked) is not tuple or not all(is_int(house) for house in asked) or asked not in tuples_of(fast.promise):
        return False
    if not judge_accepted(fast.members(), one) or not judge_accepted(fast.members(), other):
        return False
    if any(one[house] != other[house] for house in asked):
        return False
    return any(value != another for value in chosen_by(fast, one) for another in chosen_by(fast, other))


def own_possible(fast, asked, replies):
    """What may be chosen, by trying all that the other houses could have accepted."""
    others = [house for house in fast.members() if house not in asked]
    told = sorted({value for value in replies.values() if value is not None})
    found = set()
    for value in told:
        # What they accepted of other values makes this one no sooner chosen.
        for rest in itertools.product((value, None), repeat=len(others)):
            found |= chosen_by(fast, {**replies, **dict(zip(others, rest))}) & {value}
    return sorted(found)


class TestFast(Case):
    def test_the_document(self):
        self.assertEqual((is_sure(FOUR), picked(FOUR, (0, 1, 2), {0: "x", 1: "y", 2: "x"}, "z")), (True, "x"))

    def test_parts(self):
        for fast in some_fasts():
            for same in (Fast(promise=fast.promise, first=fast.first), Fast(fast.promise, fast.first)):
                self.assertTrue(same == fast)
            self.assertEqual(repr(fast), f"Fast({fast.promise!r}, {fast.first!r})")
            self.assertEqual(eval(repr(fast)), fast)
            self.assertEqual(self.ask(fast.members), sorted(set(fast.promise.members()) | set(fast.first.members())))
        self.assertEqual(repr(Fast(Tree(0), Tree(0))), "Fast(Tree(0), Tree(0))")

    def test_equality(self):
        fasts = some_fasts()[::6] + [Fast(Tree(0), Tree(1)), Fast(Tree(1), Tree(0))]
        for one in fasts:
            for value in junk() + [repr(one), one.first]:
                self.assertIs(one == value, False)
            for other in fasts:
                self.assertIs(one == other, repr(one) == repr(other))
                self.assertIs(one != other, repr(one) != repr(other))
        councils = some_councils(3)
        self.assertIs(Fast(councils[0].promise, councils[0].accept) == councils[0], False)

    def test_many_meetings(self):
        told = {"what": "meetings", "limit": 200}
        self.assertIs(is_sure(Fast(~wide_tree(200), wide_tree(200))), False)
        self.refuse(TooMany, told, Fast, promise=wide_tree(201), first=Tree(0))
        self.refuse(TooMany, told, Fast, promise=Tree(0), first=wide_tree(201))
        self.refuse(TooMany, told, Fast, promise=Tree.of(12, *range(24)), first=Tree.of(12, *range(24)))
        wide = Fast(wide_tree(200), wide_tree(200))
        found = doubt(wide)
        self.assertIs(is_doubt(wide, found), True)
        self.assertIs(judge_doubt(Fast(Tree.of(2, 0, 1, 2), Tree.of(2, 0, 1, 2)),
                                  doubt(Fast(Tree.of(2, 0, 1, 2), Tree.of(2, 0, 1, 2)))), True)


class TestDoubts(Case):
    def test_by_all_threes(self):
        seen = set()
        for fast in some_fasts():
            sure = own_sure(fast)
            self.assertIs(self.yes_or_no(is_sure, fast=fast), sure)
            found = self.ask(doubt, fast=fast)
            seen.add(sure)
            if sure:
                self.assertIsNone(found)
            else:
                self.assertTrue(judge_doubt(fast, found), (fast, found))
                self.assertEqual([list(found[1]), list(found[2])], [fast.members()] * 2)
                self.assertIs(self.yes_or_no(is_doubt, fast=fast, value=found), True)
        self.assertEqual(seen, {True, False})

    def test_what_is_a_doubt(self):
        seen = set()
        for fast in some_fasts()[::3]:
            found = doubt(fast)
            for value in junk() + ([] if found is None else variants(found)):
                told = self.yes_or_no(is_doubt, fast=fast, value=value)
                self.assertIs(told, judge_doubt(fast, value), value)
                seen.add(told)
            dice = Dice(len(fast.members()))
            for _ in range(40):
                one, other = [{house: dice.one_of(("x", "y", "x", None)) for house in fast.members()} for _ in range(2)]
                value = (dice.one_of(tuples_of(fast.promise)), one, {**one, fast.members()[-1]: other[fast.members()[-1]]})
                self.assertIs(is_doubt(fast, value), judge_doubt(fast, value))
        self.assertEqual(seen, {True, False})

    def test_two_meetings_that_are_the_same_one(self):
        fast = Fast(Tree(0), Tree.of(2, 1, 2))
        self.assertIs(is_sure(fast), False)
        self.assertIs(is_doubt(fast, ((0,), {0: None, 1: "x", 2: "x"}, {0: None, 1: "y", 2: "y"})), True)
        self.assertIs(is_doubt(fast, ((0,), {0: None, 1: "x", 2: "x"}, {0: None, 1: "x", 2: "x"})), False)
        self.assertIs(is_doubt(fast, ((0,), {0: "a", 1: "x", 2: "x"}, {0: "b", 1: "y", 2: "y"})), False)
        self.assertIs(is_doubt(fast, ((0,), {0: None, 1: "x", 2: "x"}, {0: None, 1: "y", 2: None})), False)
        # Two values may be chosen at once where first meetings are apart.
        apart = Fast(Tree.of(2, 0, 1), Tree.of(1, 0, 1))
        both = {0: "x", 1: "y"}
        self.assertIs(is_doubt(apart, ((0, 1), both, dict(both))), True)
        self.assertIs(is_doubt(apart, ((0, 1), {True: "y", 0: "x"}, both)), False)


class TestPicks(Case):
    def replies(self, fast, seed):
        dice = Dice(seed)
        asked = dice.one_of(tuples_of(fast.promise))
        return asked, {house: dice.one_of(("x", "x", "y", "", None)) for house in asked}

    def test_by_what_the_others_could_have_accepted(self):
        seen = set()
        for k, fast in enumerate(some_fasts()):
            for seed in range(6):
                asked, replies = self.replies(fast, 7 * k + seed)
                possible = own_possible(fast, asked, replies)
                told = {"fast": fast, "asked": list(asked), "replies": replies}
                self.assertEqual(self.ask(may_be_chosen, **told), possible)
                turned = dict(reversed(list(replies.items())))
                self.assertEqual(may_be_chosen(fast, asked, turned), possible)
                if own_sure(fast):
                    self.assertLessEqual(len(possible), 1)
                    wanted = possible[0] if possible else "own"
                    self.assertEqual(self.ask(picked, **told, own="own"), wanted)
                    self.assertEqual(picked(fast, asked, replies, ""), possible[0] if possible else "")
                else:
                    self.refuse(InDoubt, {}, picked, **told, own="own")
                seen.add((own_sure(fast), len(possible)))
        self.assertLessEqual({(True, 0), (True, 1), (False, 0), (False, 1), (False, 2)}, seen)

    def test_a_first_meeting_that_was_not_asked(self):
        fast = Fast(Tree.of(2, 0, 1), Tree.of(1, 2, Tree.of(2, 0, 1)))
        self.assertEqual(may_be_chosen(fast, (0, 1), {0: "b", 1: "a"}), ["a", "b"])
        self.assertEqual(may_be_chosen(fast, (0, 1), {0: None, 1: None}), [])

    def test_errors(self):
        rest = {"own": None}
        for value in junk() + [[0, 1], (0, 1), [1, 0, 2], [0, 1, 2, 3], [0, 1, 1], [False, 1, 2], [0, True, 2], {0, 1, 2},
                               {0: 0, 1: 1, 2: 2}, "012", [0, 1, 4], (2, 1, 0), [0, 1, "2"]]:
            for replies in (None, {}, {0: "x", 1: "x", 2: "x"}):
                told = {"fast": FOUR, "asked": value, "replies": replies}
                self.refuse(InvalidAsked, {"value": value}, may_be_chosen, **told)
                self.refuse(InvalidAsked, {"value": value}, picked, **told, **rest)
        good = {0: "x", 1: None, 2: ""}
        for value in junk() + variants(good):
            told = {"fast": FOUR, "asked": [0, 1, 2], "replies": value}
            if judge_accepted((0, 1, 2), value):
                self.assertTrue(is_listy(may_be_chosen(**told)))
                continue
            self.refuse(InvalidReplies, {"value": value}, may_be_chosen, **told)
            self.refuse(InvalidReplies, {"value": value}, picked, **told, own=None)
        doubtful = Fast(Tree(0), Tree(1))
        for value in junk() + ["A", "123456789", "-"]:
            if not is_text(value):
                for fast, asked in ((FOUR, (0, 1, 2)), (doubtful, (0,))):
                    self.refuse(InvalidOwn, {"value": value}, picked, fast=fast, asked=asked,
                                replies={house: None for house in asked}, own=value)
        self.refuse(InDoubt, {}, picked, fast=doubtful, asked=[0], replies={0: None}, own="")
        self.assertTrue(not_up(None))

    def test_what_was_told_is_changed(self):
        told = doubt(Fast(Tree(0), Tree(1)))
        told[1][0] = "spoilt"
        self.assertTrue(judge_doubt(Fast(Tree(0), Tree(1)), doubt(Fast(Tree(0), Tree(1)))))
        self.assertEqual(may_be_chosen(FOUR, [0, 1, 2], {0: "x", 1: "x", 2: "x"}), ["x"])


if __name__ == "__main__":
    unittest.main()

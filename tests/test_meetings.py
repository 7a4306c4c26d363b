"""[4], [31], [32], [33]: meetings, cuts, what is apart, and shares."""

import itertools
import math
import unittest

from oneshelf.errors import InvalidHouses, TooMany
from oneshelf.meetings import (apart, are_cuts_within, closest, cut_among, cuts, cuts_within, how_many, is_cut,
                               is_meeting, meeting_among, meetings, own_share, share, standing)
from oneshelf.trees import Tree
from support import Case, is_int, is_listy, junk, variants
from test_trees import some_trees, stands

NINE = Tree.of(2, Tree.of(2, 0, 1, 2), Tree.of(2, 3, 4, 5), Tree.of(2, 6, 7, 8))
MANY = {"what": "meetings", "limit": 200}


def majority(need, many, first=0):
    return Tree(("of", need, list(range(first, first + many))))


def all_sets(tree):
    members = tree.members()
    return [set(houses) for size in range(len(members) + 1) for houses in itertools.combinations(members, size)]


def try_meetings(tree):
    standing_ones = [houses for houses in all_sets(tree) if stands(tree.shape, houses)]
    return sorted(sorted(houses) for houses in standing_ones if not any(one < houses for one in standing_ones))


def try_cuts(tree):
    told = try_meetings(tree)
    hitting = [houses for houses in all_sets(tree) if all(houses & set(meeting) for meeting in told)]
    return sorted(sorted(houses) for houses in hitting if not any(one < houses for one in hitting))


def judge_list(right, value):
    """Whether a value is one of these ascending lists, in whatever sequence."""
    if not is_listy(value) or not all(is_int(house) for house in value):
        return False
    return sorted(value) in right


def judge_cuts_within(one, other, value):
    if type(value) is not dict:
        return False
    if not all(type(key) is tuple and all(is_int(house) for house in key) for key in value):
        return False
    if sorted(value) != [tuple(meeting) for meeting in try_meetings(one)]:
        return False
    right = try_cuts(other)
    return all(judge_list(right, value[key]) and set(value[key]) <= set(key) for key in value)


def tree_pairs(many=70):
    """Pairs of trees that have some houses in common."""
    trees = some_trees(many)
    pairs = [(trees[k], trees[-1 - k]) for k in range(many)] + [(tree, tree) for tree in trees[:20]]
    pairs += [(tree, ~tree) for tree in trees[:30]]
    return pairs + [(Tree.of(2, 0, 1, 2, 3), Tree.of(2, 1, 2, 3)), (Tree(0), Tree(1)), (majority(3, 5), majority(3, 6))]


class TestExamples(Case):
    def test_the_document(self):
        self.assertEqual((how_many(NINE), own_share(NINE)), (27, 1))
        self.assertEqual(self.ask(cuts, tree=Tree.of(1, Tree.of(2, 0, 1), 2)), [[0, 2], [1, 2]])
        self.assertEqual(self.ask(apart, one=Tree.of(2, 0, 1, 2, 3), other=Tree.of(2, 1, 2, 3)), ([0, 1], [2, 3]))


class TestMeetings(Case):
    def test_by_trying_all(self):
        for tree in some_trees(90):
            right, other = try_meetings(tree), try_cuts(tree)
            self.assertEqual(self.ask(meetings, tree=tree), right)
            self.assertEqual(self.ask(cuts, tree=tree), other)
            self.assertEqual(self.ask(how_many, tree=tree), len(right))
            self.assertEqual(meetings(~tree), other)
            sets = [houses for houses in all_sets(tree) if stands(tree.shape, houses)]
            counts = [sum(len(houses) == j for houses in sets) for j in range(len(tree.members()) + 1)]
            self.assertEqual(self.ask(standing, tree=tree), counts)

    def test_what_is_one(self):
        for tree in some_trees(40):
            right, other = try_meetings(tree), try_cuts(tree)
            tries = [list(houses) for houses in all_sets(tree)]
            tries += [houses[::-1] for houses in right + other] + [tuple(houses) for houses in right + other]
            for value in tries + variants(right[0]) + variants(other[-1]):
                self.assertIs(is_meeting(tree, value), judge_list(right, value), value)
                self.assertIs(is_cut(tree, value), judge_list(other, value), value)

    def test_any_value(self):
        for tree in (Tree(0), Tree(1), Tree.of(2, 0, 1, 2), Tree.of(1, 0, 1), Tree.of(2, 0, 0, 1)):
            right, other = try_meetings(tree), try_cuts(tree)
            for value in junk():
                self.assertIs(self.yes_or_no(is_meeting, tree=tree, value=value), judge_list(right, value), value)
                self.assertIs(self.yes_or_no(is_cut, tree=tree, value=value), judge_list(other, value), value)

    def test_two_hundred_and_more(self):
        self.assertEqual(meetings(majority(2, 20)), [list(two) for two in itertools.combinations(range(20), 2)])
        self.assertEqual(meetings(majority(20, 21)), [list(most) for most in itertools.combinations(range(21), 20)])
        self.assertEqual(meetings(majority(23, 24))[0], list(range(23)))
        two_hundred = Tree.of(3, *[Tree(("of", 1, list(range(first, first + size))))
                                   for first, size in ((0, 5), (5, 5), (10, 8))])
        self.assertEqual(len(meetings(two_hundred)), 200)
        self.assertEqual(cuts(~two_hundred), meetings(two_hundred))
        more = Tree.of(2, Tree(("of", 1, list(range(3)))), Tree(("of", 2, list(range(3, 15)))), Tree(20))
        self.assertEqual(how_many(more), 3 * 66 + 3 + 66)
        for tree, count in ((majority(2, 21), 210), (majority(12, 24), math.comb(24, 12)), (more, 267),
                            (majority(3, 11), 165), (majority(4, 10), 210)):
            self.assertEqual(how_many(tree), count)
            if count > 200:
                self.refuse(TooMany, MANY, meetings, tree=tree)
                self.refuse(TooMany, {"what": "cuts", "limit": 200}, cuts, tree=~tree)
            else:
                self.assertEqual(len(meetings(tree)), count)
                self.assertEqual(len(cuts(~tree)), count)

    def test_cuts_and_meetings_have_limits_of_their_own(self):
        tree = Tree.of(8, *[Tree.of(1, 3 * k, 3 * k + 1, 3 * k + 2) for k in range(8)])
        self.assertEqual(how_many(tree), 3 ** 8)
        self.assertEqual(cuts(tree), [[3 * k, 3 * k + 1, 3 * k + 2] for k in range(8)])
        self.refuse(TooMany, MANY, meetings, tree=tree)
        self.assertEqual(len(meetings(~tree)), 8)
        self.refuse(TooMany, {"what": "cuts", "limit": 200}, cuts, tree=~tree)

    def test_great_plain_trees(self):
        for need in range(1, 25):
            tree = majority(need, 24)
            self.assertEqual(how_many(tree), math.comb(24, need))
            self.assertEqual(standing(tree), [math.comb(24, j) if j >= need else 0 for j in range(25)])
            self.assertIs(is_meeting(tree, list(range(24))[-need:]), True)
            self.assertIs(is_meeting(tree, list(range(24))[-need:][1:]), False)
            self.assertIs(is_cut(tree, list(range(25 - need))), True)
        grid = Tree.of(3, *[Tree.of(2, *range(6 * k, 6 * k + 6)) for k in range(4)])
        self.assertEqual(how_many(grid), 4 * 15 ** 3)
        self.assertEqual(sum(standing(grid)) + sum(standing(~grid)), 2 ** 24)

    def test_eight_houses_at_many_leaves(self):
        tree = Tree.of(2, majority(4, 8), Tree.of(5, *range(8)), Tree.of(2, *range(8)))
        self.assertEqual(meetings(tree), [list(four) for four in itertools.combinations(range(8), 4)])
        self.assertEqual((own_share(tree), how_many(tree)), (0, 70))
        self.assertEqual(standing(tree), [0, 0, 0, 0, 70, 56, 28, 8, 1])


class TestAmong(Case):
    def test_by_trying_all(self):
        for tree in some_trees(50):
            right, other = try_meetings(tree), try_cuts(tree)
            for houses in all_sets(tree)[::3]:
                for function, wanted in ((meeting_among, right), (cut_among, other)):
                    told = self.ask(function, tree=tree, houses=sorted(houses)[::-1])
                    some = [one for one in wanted if set(one) <= houses]
                    self.assertIs(told is None, not some)
                    if some:
                        self.assertIn(told, some)
                    self.assertEqual(function(tree, tuple(sorted(houses)[::-1])), told)

    def test_wrong_houses(self):
        for tree in some_trees(12) + [Tree.of(2, 0, 1, 2)]:
            members = tree.members()
            for value in junk() + variants(members):
                good = is_listy(value) and all(is_int(house) and house in members for house in value)
                if not (good and len(set(value)) == len(value)):
                    for function in (meeting_among, cut_among):
                        self.refuse(InvalidHouses, {"value": value}, function, tree=tree, houses=value)

    def test_great_ones(self):
        for tree in (majority(12, 24), NINE, ~NINE):
            self.assertIs(is_meeting(tree, meeting_among(tree, tree.members())), True)
            self.assertIs(is_cut(tree, cut_among(tree, tree.members())), True)
            self.assertIsNone(meeting_among(tree, []))
            self.assertIsNone(cut_among(tree, ()))


class TestShares(Case):
    def test_own_shares_by_trying_all(self):
        seen = set()
        for tree in some_trees(90):
            right = try_meetings(tree)
            least = min(len(set(one) & set(other)) for one in right for other in right)
            self.assertEqual(self.ask(own_share, tree=tree), least)
            told = self.ask(closest, tree=tree)
            self.assertIs(type(told), tuple)
            self.assertEqual(len(told), 2)
            for meeting in told:
                self.assertIn(meeting, right)
            self.assertEqual(len(set(told[0]) & set(told[1])), least)
            seen.add(least)
        self.assertLessEqual({0, 1, 2}, seen)

    def test_great_plain_trees(self):
        for need in range(1, 25):
            tree = majority(need, 24)
            self.assertEqual(own_share(tree), max(0, 2 * need - 24))
        parts = [Tree.of(3, *range(4)), Tree.of(2, *range(4, 8)), Tree.of(4, *range(8, 12)), Tree.of(3, *range(12, 15)),
                 Tree.of(4, *range(15, 20)), Tree(23)]
        # Their own shares are 2, 0, 4, 3, 3, 1.
        for need, least in ((1, 0), (3, 0), (4, 0 + 1), (5, 0 + 1 + 2 + 3), (6, 13)):
            tree = Tree.of(need, *parts)
            self.assertEqual(own_share(tree), least)
            one, other = closest(tree)
            self.assertIs(is_meeting(tree, one) and is_meeting(tree, other), True)
            self.assertEqual(len(set(one) & set(other)), least)

    def test_shares_by_trying_all(self):
        for one, other in tree_pairs():
            ones, others = try_meetings(one), try_meetings(other)
            least = min(len(set(some) & set(more)) for some in ones for more in others)
            self.assertEqual(self.ask(share, one=one, other=other), least)
            right = [(some, more) for some in ones for more in others if not set(some) & set(more)]
            self.assertEqual(self.ask(apart, one=one, other=other), right[0] if right else None)
            self.assertEqual(share(one, one), own_share(one))


class TestCutsWithin(Case):
    def test_by_trying_all(self):
        seen = set()
        for one, other in tree_pairs():
            told = self.ask(cuts_within, one=one, other=other)
            parted = apart(one, other)
            self.assertIs(told is None, parted is not None)
            seen.add(told is None)
            if told is None:
                whole = {tuple(some): cut_among(other, [house for house in some if house in other])
                         for some in meetings(one)}
                self.assertIs(are_cuts_within(one, other, whole), False)
                continue
            self.assertEqual(list(told), sorted(told))
            self.assertIs(judge_cuts_within(one, other, told), True)
            self.assertIs(self.yes_or_no(are_cuts_within, one=one, other=other, value=told), True)
            turned = {key: tuple(told[key][::-1]) for key in sorted(told)[::-1]}
            self.assertIs(are_cuts_within(one, other, turned), True)
        self.assertEqual(seen, {True, False})

    def test_what_is_one(self):
        for one, other in tree_pairs()[::3]:
            told = cuts_within(one, other)
            right = {tuple(some): list(some) for some in meetings(one)}
            for value in (variants(told)[:400] if told else []) + variants(right)[:200] + [right]:
                self.assertIs(are_cuts_within(one, other, value), judge_cuts_within(one, other, value), value)

    def test_cuts_that_the_meeting_does_not_have(self):
        one, other = Tree.of(1, 0, 1), Tree.of(2, 0, 1)
        self.assertIs(are_cuts_within(one, other, {(0,): [0], (1,): [1]}), True)
        for value in ({(0,): [1], (1,): [0]}, {(0,): [0], (1,): [0]}, {(0,): [1], (1,): [1]}):
            self.assertIs(are_cuts_within(one, other, value), False)
        for one, other in tree_pairs()[::4]:
            right = try_cuts(other)
            for k in range(4):
                value = {tuple(some): right[(k + at) % len(right)] for at, some in enumerate(try_meetings(one))}
                self.assertIs(are_cuts_within(one, other, value), judge_cuts_within(one, other, value))

    def test_any_value(self):
        for one, other in ((Tree(0), Tree(0)), (Tree(1), Tree.of(2, 0, 1)), (Tree.of(1, 0, 1), Tree.of(2, 0, 1))):
            for value in junk() + [{(0,): [0]}, {(False,): [0]}, {(0,): [False]}, {(True,): [1]}, {(1,): [True]},
                                   {(0,): [0], (1,): [1]}, {(0,): (0,), (1,): (1,)}, {0: [0]}, {(0,): [0, 1]},
                                   {(0,): [0], (1,): [1], (2,): [2]}, {(0,): None}, {(0,): {0}}, {frozenset([0]): [0]}]:
                told = self.yes_or_no(are_cuts_within, one=one, other=other, value=value)
                self.assertIs(told, judge_cuts_within(one, other, value), value)

    def test_two_hundred_and_more(self):
        few, most, more = Tree(0), majority(2, 20), majority(2, 21)
        for function in (share, apart, cuts_within):
            self.refuse(TooMany, MANY, function, one=few, other=more)
            self.refuse(TooMany, MANY, function, one=more, other=few)
            self.refuse(TooMany, MANY, function, one=more, other=majority(3, 24))
        for one, other in ((few, more), (more, few), (more, more)):
            for value in (None, {}, {(0,): [0]}):
                self.refuse(TooMany, MANY, are_cuts_within, one=one, other=other, value=value)
        self.assertEqual(apart(most, most), ([0, 1], [2, 3]))
        self.assertEqual(share(most, ~most), 1)
        told = cuts_within(most, ~most)
        self.assertEqual(len(told), 190)
        self.assertIs(are_cuts_within(most, ~most, told), True)
        self.assertEqual((own_share(more), len(closest(more))), (0, 2))

    def test_just_two_hundred(self):
        tree = Tree.of(3, Tree.of(1, *range(5)), Tree.of(1, *range(5, 10)), Tree.of(1, *range(10, 18)))
        self.assertEqual(how_many(tree), 200)
        self.assertEqual(share(tree, tree), 0)
        self.assertEqual(apart(tree, tree), ([0, 5, 10], [1, 6, 11]))
        self.assertIsNone(cuts_within(tree, tree))
        self.assertIs(are_cuts_within(tree, tree, {}), False)
        told = cuts_within(tree, ~tree)
        self.assertIs(are_cuts_within(tree, ~tree, told), True)
        self.assertEqual(share(~tree, tree), 1)
        told = cuts_within(~tree, tree)
        self.assertEqual(told, {tuple(cut): cut for cut in cuts(tree)})
        self.assertIs(are_cuts_within(~tree, tree, told), True)


if __name__ == "__main__":
    unittest.main()

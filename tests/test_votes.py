"""[36]: votes and trades of trees."""

import itertools
import unittest

from oneshelf.errors import TooMany
from oneshelf.trees import Tree
from oneshelf.votes import is_trade, is_votes, trade, votes
from support import Case, Dice, is_int, is_listy, junk, variants
from test_meetings import NINE, all_sets, majority
from test_trees import some_trees, stands

HALVES = Tree.of(2, Tree.of(1, 0, 1), Tree.of(1, 2, 3))
MANY = {"what": "houses", "limit": 8}


def judge_votes(tree, value):
    if type(value) is not tuple or len(value) != 2 or not is_int(value[0]) or value[0] <= 0:
        return False
    counts = value[1]
    if type(counts) is not dict or not all(is_int(house) for house in counts) or sorted(counts) != tree.members():
        return False
    if not all(is_int(count) and count >= 0 for count in counts.values()):
        return False
    return all((sum(counts[house] for house in houses) >= value[0]) is stands(tree.shape, houses)
               for houses in all_sets(tree))


def judge_trade(tree, value):
    if type(value) is not tuple or len(value) != 2 or not all(is_listy(side) for side in value):
        return False
    if len(value[0]) != len(value[1]) or len(value[0]) == 0:
        return False
    for side, yes in zip(value, (True, False)):
        for houses in side:
            if not is_listy(houses) or not all(is_int(house) and house in tree.members() for house in houses):
                return False
            if len(set(houses)) < len(houses) or stands(tree.shape, houses) is not yes:
                return False
    counts = [[sum(house in houses for houses in side) for house in tree.members()] for side in value]
    return counts[0] == counts[1]


def weighted_tree(counts, need):
    """A tree in which a set stands exactly if its counts come to the need."""
    return Tree.of(need, *[house for house, count in enumerate(counts) for _ in range(count)])


def more_trees(many=60):
    """Trees of up to eight houses, of which many have votes, and many a trade."""
    found = [HALVES, ~HALVES, Tree.of(1, 0, Tree.of(2, 0, 1)), majority(4, 8), majority(1, 8), majority(8, 8)]
    found += [Tree.of(2, *[Tree.of(2, 2 * k, 2 * k + 1) for k in range(4)]), weighted_tree((5, 4, 3, 2, 1, 1, 1, 1), 9)]
    found.append(Tree.of(1, Tree.of(3, 0, 1, 2), Tree.of(3, 2, 3, 4), Tree.of(3, 4, 5, 6), Tree.of(3, 6, 7, 0)))
    seed = 0
    while len(found) < many:
        seed += 1
        dice = Dice(seed)
        parts = [Tree.of(1 + dice.below(2), *[dice.below(8) for _ in range(2 + dice.below(2))])
                 for _ in range(2 + dice.below(4))]
        found.append(Tree.of(1 + dice.below(len(parts)), *parts, dice.below(8)))
    return found


class TestVotes(Case):
    def test_the_document(self):
        self.assertIs(is_trade(HALVES, ([[0, 2], [1, 3]], [[0, 1], [2, 3]])), True)
        self.assertIsNone(self.ask(votes, tree=HALVES))

    def test_one_of_both(self):
        seen = {True: 0, False: 0}
        for tree in some_trees(60) + more_trees():
            some, other = self.ask(votes, tree=tree), self.ask(trade, tree=tree)
            self.assertIs(some is None, other is not None)
            seen[some is None] += 1
            if some is None:
                self.assertIs(judge_trade(tree, other), True)
                self.assertIs(type(other[0]) is list and type(other[1]) is list, True)
                self.assertLessEqual(len(other[0]), 1000)
                self.assertIs(self.yes_or_no(is_trade, tree=tree, value=other), True)
            else:
                self.assertIs(judge_votes(tree, some), True)
                self.assertEqual(list(some[1]), tree.members())
                self.assertLess(max([some[0]] + list(some[1].values())), 10 ** 20)
                self.assertIs(self.yes_or_no(is_votes, tree=tree, value=some), True)
        self.assertGreater(min(seen.values()), 20)

    def test_trees_of_counts(self):
        for counts in itertools.combinations_with_replacement((0, 1, 2, 3), 4):
            for need in range(1, sum(counts) + 1, 2):
                tree = weighted_tree(counts, need)
                self.assertIsNone(trade(tree))
                self.assertIs(judge_votes(tree, votes(tree)), True)
                right = {house: count for house, count in enumerate(counts) if count}
                self.assertIs(is_votes(tree, (need, right)), True)

    def test_what_is_one(self):
        for tree in some_trees(30) + more_trees(30):
            some, other = votes(tree), trade(tree)
            even = (len(tree.members()), {house: 1 for house in tree.members()})
            for value in ([some] + variants(some)[:150] if some else []) + variants(even)[:60] + [even]:
                self.assertIs(is_votes(tree, value), judge_votes(tree, value), value)
            for value in ([other, (tuple(other[0]), tuple(tuple(houses) for houses in other[1])),
                           (other[0] * 2, other[1] * 2), other[::-1]] + variants(other)[:150] if other else []):
                self.assertIs(is_trade(tree, value), judge_trade(tree, value), value)
                self.assertIs(is_votes(tree, value), False)

    def test_any_value(self):
        for tree in (Tree(0), Tree(1), Tree.of(1, 0, 1), HALVES):
            more = [(1, {0: 1}), (1, {False: 1}), (True, {0: 1}), (1, {0: True}), (1, {1: 1}), (1, {True: 1}),
                    (1, [1]), [1, {0: 1}], (0, {0: 0}), (1, {0: 1, 1: 1}), (2, {0: 3, 1: 2}), (1, {1: 9, 0: 1}),
                    (1, {0: -1, 1: 2}), (-1, {0: 1}), ([], []), ([[0]], [[]]), ([[0]], [[0]]), ([[]], [[0]]),
                    ([[0], [1]], [[], [0, 1]]), ([[False, 2]], [[0, 2]])]
            for value in junk() + more:
                self.assertIs(self.yes_or_no(is_votes, tree=tree, value=value), judge_votes(tree, value), value)
                self.assertIs(self.yes_or_no(is_trade, tree=tree, value=value), judge_trade(tree, value), value)

    def test_trades_that_are_not_quite(self):
        right = ([[0, 2], [1, 3]], [[0, 1], [2, 3]])
        self.assertIs(is_trade(HALVES, right), True)
        self.assertIs(is_trade(HALVES, ([[2, 0], (3, 1), [0, 3], [1, 2]], [[1, 0], [3, 2], [0, 1], [2, 3]])), True)
        for value in ([right[0], right[1]], (right[1], right[0]), (right[0], [[0, 1], [2]]),
                      ([[0, 2]], [[0, 1], [2, 3]]), ([[0, 2], [0, 3]], right[1]), ([[0, 2, 2], [1, 3]], right[1]),
                      ([[0, 2], [1, 3]], [[0, 1], [2, 3], []]), ([[0, 2, 1], [3, 1]], right[1]),
                      ([[0, 1], [0, 2], [1, 3]], [[0, 1], [0, 1], [2, 3]]),
                      ([[0, 2], [1, 3], [0, 2]], [[0, 1], [2, 3], [0, 2]])):
            self.assertIs(is_trade(HALVES, value), False, value)


class TestLimits(Case):
    def test_eight_houses_and_nine(self):
        self.assertIs(judge_votes(majority(5, 8), votes(majority(5, 8))), True)
        for tree in (NINE, majority(5, 9), majority(12, 24)):
            self.refuse(TooMany, MANY, votes, tree=tree)
            self.refuse(TooMany, MANY, trade, tree=tree)
            for value in (None, (5, {house: 1 for house in tree.members()}), ([[0]], [[0]])):
                self.refuse(TooMany, MANY, is_votes, tree=tree, value=value)
                self.refuse(TooMany, MANY, is_trade, tree=tree, value=value)

    def test_many_leaves(self):
        tree = Tree(("of", 9, list(range(8)) * 3))
        self.assertIs(judge_votes(tree, votes(tree)), True)
        self.assertIsNone(trade(tree))


if __name__ == "__main__":
    unittest.main()

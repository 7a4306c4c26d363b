"""[4], [34], [35]: chances, weights, and the load of trees."""

import unittest
from fractions import Fraction

from oneshelf.errors import InvalidChances, InvalidFraction
from oneshelf.loads import asked, chances, is_chances, is_weights, load, weights
from oneshelf.meetings import how_many, is_meeting
from oneshelf.trees import Tree
from support import Case, Dice, is_int, is_listy, junk, variants
from test_meetings import NINE, all_sets, majority, try_meetings
from test_trees import nested, some_trees, stands


def is_frac(value):
    if type(value) is not tuple or len(value) != 2 or not is_int(value[0]) or not is_int(value[1]) or value[1] < 1:
        return False
    return (Fraction(*value).numerator, Fraction(*value).denominator) == value


def pair(fraction):
    return (fraction.numerator, fraction.denominator)


def judge_asked(tree, right, value):
    """The dict of what houses are asked with, if a value is chances of a tree with these meetings; otherwise None."""
    if not is_listy(value) or len(value) == 0:
        return None
    for part in value:
        if type(part) is not tuple or len(part) != 2 or not is_frac(part[1]) or part[1][0] <= 0:
            return None
        if not is_listy(part[0]) or not all(is_int(house) for house in part[0]) or sorted(part[0]) not in right:
            return None
    if len({frozenset(part[0]) for part in value}) < len(value) or sum(Fraction(*part[1]) for part in value) != 1:
        return None
    return {house: sum([Fraction(*part[1]) for part in value if house in part[0]], Fraction(0))
            for house in tree.members()}


def judge_chances(tree, right, limit, value):
    found = judge_asked(tree, right, value)
    return found is not None and max(found.values()) <= Fraction(*limit)


def judge_weights(tree, right, limit, value):
    if type(value) is not dict or not all(is_int(house) for house in value) or sorted(value) != tree.members():
        return False
    if not all(is_frac(value[house]) and value[house][0] >= 0 for house in value):
        return False
    if sum(Fraction(*value[house]) for house in value) != 1:
        return False
    return min(sum(Fraction(*value[house]) for house in houses) for houses in right) >= Fraction(*limit)


def near(limit):
    """FRACTIONS that are the same as, a little less, and a little more than a FRACTION, and others."""
    exact = Fraction(*limit)
    return [limit, pair(exact - Fraction(1, 10 ** 6)), pair(exact + Fraction(1, 10 ** 6)), (0, 1), (-1, 2), (1, 1),
            (5, 2)]


def mixed_trees():
    """Trees that are not plain; some of eight houses, some with houses that are in no meeting."""
    found = [tree for tree in some_trees(60) if not tree.is_plain]
    found += [Tree.of(1, 0, Tree.of(2, 0, 1)), Tree.of(2, majority(4, 8), Tree.of(5, *range(8)), Tree.of(2, *range(8)))]
    for seed in range(12):
        dice = Dice(seed)
        parts = [Tree.of(1 + dice.below(3), *[dice.below(8) for _ in range(3)]) for _ in range(2 + dice.below(4))]
        found.append(Tree.of(1 + dice.below(len(parts)), *parts))
    return found


def great_trees():
    """Plain trees of up to 24 houses, most of many meetings."""
    found = [majority(need, 24) for need in (1, 2, 12, 13, 23, 24)] + [NINE, ~NINE, Tree(nested(5))]
    found.append(Tree.of(3, *[Tree.of(2, *range(6 * k, 6 * k + 6)) for k in range(4)]))
    found.append(Tree.of(2, 0, 1, Tree.of(2, 2, 3, Tree.of(2, 4, 5, Tree.of(2, 6, 7, Tree.of(9, *range(8, 24)))))))
    found.append(Tree.of(3, 0, *[Tree.of(1 + k, *range(1 + 4 * k, 5 + 4 * k)) for k in range(4)],
                         Tree.of(5, *range(17, 24))))
    found.append(Tree.of(4, *[Tree.of(k + 1, *range(5 * k, 5 * k + 5)) for k in range(4)], 20, Tree.of(2, 21, 22, 23)))
    return found


def least_weight(shape, numbers):
    """The least weight of a meeting of a plain tree."""
    if is_int(shape):
        return numbers[shape]
    return sum(sorted(least_weight(part, numbers) for part in shape[2])[:shape[1]])


class TestExamples(Case):
    def test_the_document(self):
        one, other = Tree.of(1, 0, Tree.of(2, 1, 2)), Tree.of(2, 0, 1, Tree.of(2, 2, 3, 4))
        self.assertEqual([self.ask(load, tree=tree) for tree in (NINE, one, other)], [(4, 9), (1, 2), (4, 7)])


class TestLoads(Case):
    def check_papers(self, tree):
        """That chances and weights show the load, each bound by the other one."""
        right = try_meetings(tree)
        told = self.ask(load, tree=tree)
        self.assertIs(is_frac(told), True)
        some, numbers = self.ask(chances, tree=tree), self.ask(weights, tree=tree)
        self.assertIs(type(some), list)
        for part in some:
            self.assertIs(type(part[0]), list)
        self.assertEqual(list(numbers), tree.members())
        self.assertIs(judge_chances(tree, right, told, some), True)
        self.assertIs(judge_weights(tree, right, told, numbers), True)
        self.assertEqual(max(judge_asked(tree, right, some).values()), Fraction(*told))
        self.assertIs(self.yes_or_no(is_chances, tree=tree, limit=told, value=some), True)
        self.assertIs(self.yes_or_no(is_weights, tree=tree, limit=told, value=numbers), True)
        self.assertEqual(asked(tree, some),
                         {house: pair(judge_asked(tree, right, some)[house]) for house in tree.members()})

    def test_small_trees(self):
        for tree in some_trees(60) + [NINE]:
            self.check_papers(tree)

    def test_trees_that_are_not_plain(self):
        for tree in mixed_trees():
            self.check_papers(tree)

    def test_a_leaf(self):
        for tree in (Tree(5), Tree(("of", 1, [5])), Tree(nested(5))):
            house = tree.members()[0]
            self.assertEqual((load(tree), chances(tree), weights(tree)), ((1, 1), [([house], (1, 1))], {house: (1, 1)}))

    def test_gates(self):
        for many in range(1, 25):
            for need in {1, many // 2 + 1, many - 1, many} - {0}:
                self.assertEqual(load(majority(need, many)), pair(Fraction(need, many)))
        self.assertEqual(load(Tree.of(2, 0, Tree.of(1, 1, 2))), (1, 1))
        self.assertEqual(load(Tree.of(1, Tree.of(1, 0, 1), Tree.of(1, 2, 3, 4))), (1, 5))
        self.assertEqual(load(Tree.of(2, Tree.of(1, 0, 1), Tree.of(1, 2, 3, 4))), (1, 2))
        self.assertEqual(load(Tree.of(2, Tree.of(1, *range(10)), 10, 11)), (1, 2))

    def test_great_plain_trees(self):
        for tree in great_trees():
            told, some, numbers = load(tree), self.ask(chances, tree=tree), self.ask(weights, tree=tree)
            self.assertLessEqual(len(some), 4000)
            self.assertEqual(len({tuple(houses) for houses, _ in some}), len(some))
            self.assertEqual(sum(Fraction(*chance) for _, chance in some), 1)
            self.assertTrue(all(is_meeting(tree, houses) and is_frac(chance) and chance[0] > 0
                                for houses, chance in some))
            for house in tree.members():
                self.assertLessEqual(sum(Fraction(*chance) for houses, chance in some if house in houses),
                                     Fraction(*told))
            self.assertTrue(all(is_frac(number) and number[0] >= 0 for number in numbers.values()))
            self.assertEqual(list(numbers), tree.members())
            exact = {house: Fraction(*numbers[house]) for house in numbers}
            self.assertEqual(sum(exact.values()), 1)
            self.assertGreaterEqual(least_weight(tree.shape, exact), Fraction(*told))
            self.assertIs(is_chances(tree, told, some), True)
            self.assertIs(is_weights(tree, told, numbers), True)
            for limit in near(told):
                self.assertIs(is_chances(tree, limit, some), Fraction(*limit) >= Fraction(*told))
                self.assertIs(is_weights(tree, limit, numbers), Fraction(*limit) <= least_weight(tree.shape, exact))
        self.assertGreater(max(how_many(tree) for tree in great_trees()), 2 * 10 ** 6)


class TestJudges(Case):
    def test_what_is_one(self):
        for tree in some_trees(24) + mixed_trees()[-4:]:
            right, told = try_meetings(tree), load(tree)
            some, numbers = chances(tree), weights(tree)
            for limit in near(told)[:3]:
                for value in [some, tuple(some)] + variants(some)[:150]:
                    self.assertIs(is_chances(tree, limit, value), judge_chances(tree, right, limit, value), value)
                for value in [numbers] + variants(numbers)[:150]:
                    self.assertIs(is_weights(tree, limit, value), judge_weights(tree, right, limit, value), value)

    def test_any_value(self):
        for tree in (Tree(0), Tree(1), Tree.of(1, 0, 1), Tree.of(2, 0, 0, 1)):
            right = try_meetings(tree)
            more = [[([0], (1, 1))], [([1], (1, 1))], [([True], (1, 1))], [([0], (True, 1))], [((0,), (1, True))],
                    {0: (1, 1)}, {False: (1, 1)}, {1: (1, 1)}, {True: (1, 1)}, {0: (1, 2), True: (1, 2)},
                    {0: (1, 2), 1: (1, 2)}, {1: (1, 2), 0: (1, 2)}, {0: (0, 1), 1: (1, 1)}, {0: (-1, 1), 1: (2, 1)},
                    {0: (2, 4), 1: (1, 2)}, [([0], (2, 2))], [[[0], (1, 1)]], [([0], [1, 1])], {"0": (1, 1)}]
            for value in junk() + more:
                for limit in ((1, 1), (0, 1), (1, 2)):
                    self.assertIs(self.yes_or_no(is_chances, tree=tree, limit=limit, value=value),
                                  judge_chances(tree, right, limit, value), value)
                    self.assertIs(self.yes_or_no(is_weights, tree=tree, limit=limit, value=value),
                                  judge_weights(tree, right, limit, value), value)

    def test_other_chances(self):
        tree = Tree.of(2, 0, 1, 2)
        for value, load_of in (([([1, 0], (1, 1))], (1, 1)), ([([1, 0], (1, 2)), ((2, 1), (1, 2))], (1, 1)),
                               ([([0, 1], (1, 3)), ([2, 0], (1, 6)), ([1, 2], (1, 2))], (5, 6))):
            for limit in near(load_of)[:3]:
                self.assertIs(is_chances(tree, limit, value), Fraction(*limit) >= Fraction(*load_of))
        for value in ([([0, 1], (1, 2)), ([1, 0], (1, 2))], [([0, 1, 2], (1, 1))], [([0, 1], (1, 2))],
                      [([0, 1], (2, 2))], [([0, 1], (1, 1)), ([0, 2], (0, 1))], [], [([0, 1], (3, 2)), ([0, 2], (-1, 2))]):
            self.assertIs(is_chances(tree, (2, 1), value), False)

    def test_other_weights(self):
        tree = Tree.of(2, 0, 1, 2)
        for value, least in (({0: (1, 3), 1: (1, 3), 2: (1, 3)}, (2, 3)), ({2: (1, 1), 0: (0, 1), 1: (0, 1)}, (0, 1)),
                             ({0: (1, 2), 1: (1, 3), 2: (1, 6)}, (1, 2))):
            for limit in near(least):
                self.assertIs(is_weights(tree, limit, value), Fraction(*limit) <= Fraction(*least))
        for value in ({0: (1, 2), 1: (1, 2)}, {0: (1, 2), 1: (1, 2), 2: (0, 1), 3: (0, 1)}, {0: (1, 2), 1: (1, 2), 2: 0},
                      {0: (3, 2), 1: (-1, 2), 2: (0, 1)}, {0: (1, 3), 1: (1, 3), 2: (1, 4)}):
            self.assertIs(is_weights(tree, (-1, 1), value), False)

    def test_weights_of_trees_that_are_not_plain(self):
        for seed, tree in enumerate(mixed_trees()):
            right, dice = try_meetings(tree), Dice(seed)
            numbers = {house: 1 + dice.below(5) for house in tree.members()}
            value = {house: pair(Fraction(numbers[house], sum(numbers.values()))) for house in numbers}
            least = min(sum(Fraction(*value[house]) for house in houses) for houses in right)
            for limit in near(pair(least)):
                self.assertIs(is_weights(tree, limit, value), Fraction(*limit) <= least)

    def test_long_fractions(self):
        tree, tiny = Tree.of(1, 0, 1), (1, 10 ** 29)
        rest = pair(1 - Fraction(*tiny))
        self.assertIs(is_chances(tree, rest, [([0], tiny), ([1], rest)]), True)
        self.assertIs(is_chances(tree, pair(Fraction(*rest) - Fraction(1, 10 ** 29)), [([0], tiny), ([1], rest)]), False)
        self.assertIs(is_weights(tree, tiny, {0: tiny, 1: rest}), True)
        self.assertIs(is_weights(tree, (2, 10 ** 29 - 1), {0: tiny, 1: rest}), False)

    def test_what_standing_sets_are_not(self):
        tree = Tree.of(1, 0, Tree.of(2, 0, 1))
        for houses in all_sets(tree):
            told = is_chances(tree, (1, 1), [(sorted(houses), (1, 1))])
            self.assertIs(told, houses == {0} and stands(tree.shape, houses))


class TestErrors(Case):
    def test_limits_that_are_no_fractions(self):
        tree = Tree.of(2, 0, 1, 2)
        for limit in junk() + [(2, 4), (0, 2), (1, -1), [1, 2], (True, 2), (1, True), (1, 0), (-3, 6)]:
            if not is_frac(limit):
                for value in (None, chances(tree), weights(tree)):
                    self.refuse(InvalidFraction, {"value": limit}, is_chances, tree=tree, limit=limit, value=value)
                    self.refuse(InvalidFraction, {"value": limit}, is_weights, tree=tree, limit=limit, value=value)

    def test_what_is_not_asked(self):
        for tree in (Tree(0), Tree(1), Tree.of(2, 0, 1, 2), Tree.of(2, 0, 0, 1)):
            right = try_meetings(tree)
            for value in junk() + variants(chances(tree)) + [[([0], (1, 1))]]:
                wanted = judge_asked(tree, right, value)
                if wanted is None:
                    self.refuse(InvalidChances, {"value": value}, asked, tree=tree, value=value)
                else:
                    told = self.ask(asked, tree=tree, value=value)
                    self.assertEqual(told, {house: pair(wanted[house]) for house in wanted})
                    self.assertEqual(list(told), tree.members())


if __name__ == "__main__":
    unittest.main()

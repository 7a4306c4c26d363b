"""[31], [32]: trees, what stands in them, and their contraries."""

import itertools
import unittest

from oneshelf.errors import InvalidHouses, InvalidNumber, InvalidTree, TooMany
from oneshelf.trees import Tree, is_tree
from support import Case, Dice, is_int, is_listy, junk, variants

HOUSES = range(24)


def judge_tree(value):
    if is_int(value):
        return value in HOUSES
    if type(value) is not tuple or len(value) != 3 or value[0] != "of" or type(value[0]) is not str:
        return False
    if not is_int(value[1]) or not is_listy(value[2]) or not 1 <= value[1] <= len(value[2]):
        return False
    return all(judge_tree(part) for part in value[2])


def leaves_of(shape):
    return [shape] if is_int(shape) else [house for part in shape[2] for house in leaves_of(part)]


def depth_of(shape):
    return 0 if is_int(shape) else 1 + max(depth_of(part) for part in shape[2])


def stands(shape, houses):
    return shape in houses if is_int(shape) else sum(stands(part, houses) for part in shape[2]) >= shape[1]


def as_lists(shape):
    return shape if is_int(shape) else ("of", shape[1], [as_lists(part) for part in shape[2]])


def as_tuples(shape):
    return shape if is_int(shape) else ("of", shape[1], tuple(as_tuples(part) for part in shape[2]))


def some_shape(dice, deep, take):
    """A shape whose leaves are what take() gives; gates of one part are among its gates."""
    if deep == 0 or dice.below(4) == 0:
        return take()
    parts = [some_shape(dice, deep - 1, take) for _ in range(1 + dice.below(3))]
    return ("of", 1 + dice.below(len(parts)), parts)


def some_trees(many=60):
    """Trees that are plain, and trees that are not; each of at most eight houses."""
    found = [Tree(0), Tree(23), Tree(("of", 1, [7])), Tree(("of", 2, [3, 3])), Tree(("of", 1, [3, 3]))]
    seed = 0
    while len(found) < many:
        seed += 1
        dice = Dice(seed)
        free = [17, 3, 9, 0, 23, 5, 12, 8]
        shape = some_shape(dice, 1 + seed % 3, free.pop if seed % 2 else lambda: (2, 9, 0, 11, 5)[dice.below(5)]) \
            if seed % 2 == 0 or seed % 3 < 2 else ("of", 1 + seed % 4, [free.pop() for _ in range(5)])
        found.append(Tree(shape))
    return found


def nested(deep):
    """A shape of so many gates, one within another."""
    shape = 0
    for _ in range(deep):
        shape = ("of", 1, [shape])
    return shape


class TestIsTree(Case):
    def test_any_value(self):
        for value in junk() + [23, 24, -1, ("of", 1, [0]), ("of", 1, (0,)), ("of", 2, [0]), ("of", 0, [0]),
                               ("of", True, [0]), ("of", 1, [True]), ("of", 1, []), ["of", 1, [0]], ("Of", 1, [0]),
                               ("of", 1, [24]), ("of", 1, {0: 0}), ("of", 1, "0"), ("of", 1, [0], 0), ("of", "1", [0]),
                               ("of", 1, [Tree(0)]), Tree(0), ("of", 1, [None]), ("of", 1, 0), (b"of", 1, [0])]:
            self.assertIs(self.yes_or_no(is_tree, value=value), judge_tree(value), value)

    def test_what_is_one(self):
        for tree in some_trees():
            for value in [tree.shape, as_tuples(tree.shape)] + variants(tree.shape):
                self.assertIs(is_tree(value), judge_tree(value), value)

    def test_beyond_the_limits(self):
        self.assertIs(is_tree(nested(6)), True)
        self.assertIs(is_tree(("of", 1, list(range(24)) + [0])), True)
        self.assertIs(is_tree(("of", 1, list(range(9)) + [0])), True)


class TestTree(Case):
    def test_examples(self):
        nine = Tree.of(2, Tree.of(2, 0, 1, 2), Tree.of(2, 3, 4, 5), Tree.of(2, 6, 7, 8))
        self.assertEqual((nine.is_plain, len(nine), nine.stands([0, 2, 7, 6]), nine.stands([0, 3, 6, 7])),
                         (True, 9, True, False))
        self.assertEqual(repr(~Tree.of(3, 0, 1, 2, 3)), "Tree(('of', 2, [0, 1, 2, 3]))")

    def test_wrong_shapes(self):
        for value in junk() + [24, Tree(0), ("of", 3, [0, 1]), ("of", 1, [0, ("of", 1, [])])]:
            if not judge_tree(value):
                self.refuse(InvalidTree, {"value": value}, Tree, shape=value)
        for tree in some_trees(30):
            for value in variants(tree.shape):
                if not judge_tree(value):
                    self.refuse(InvalidTree, {"value": value}, Tree, shape=value)

    def test_parts(self):
        for tree in some_trees():
            shape = tree.shape
            leaves = leaves_of(shape)
            for value in (shape, as_lists(shape), as_tuples(shape)):
                same = Tree(value)
                self.assertTrue(same == tree)
                self.assertEqual(same.shape, as_lists(shape))
                self.assertEqual(repr(same), f"Tree({as_lists(shape)})")
            self.assertEqual(self.ask(tree.members), sorted(set(leaves)))
            self.assertEqual(len(tree), len(leaves))
            self.assertIs(tree.is_plain, len(set(leaves)) == len(leaves))
            self.assertEqual(eval(repr(tree)), tree)
            for value in junk() + [2, 3, 8, 9, 23, 24]:
                self.assertIs(value in tree, is_int(value) and value in leaves, value)

    def test_stands(self):
        for tree in some_trees():
            members = tree.members()
            for size in range(len(members) + 1):
                for houses in list(itertools.combinations(members, size))[:20]:
                    told = self.yes_or_no(tree.stands, houses=list(houses)[::-1])
                    self.assertIs(told, stands(tree.shape, houses))
                    self.assertIs(tree.stands(houses), told)

    def test_wrong_houses(self):
        for tree in some_trees(20) + [Tree.of(2, 0, 1, 2)]:
            members = tree.members()
            for value in junk() + variants(members) + [members + members[:1], members + [24]]:
                good = is_listy(value) and all(is_int(house) and house in members for house in value)
                if not (good and len(set(value)) == len(value)):
                    self.refuse(InvalidHouses, {"value": value}, tree.stands, houses=value)

    def test_what_was_passed_is_changed(self):
        parts = [0, ("of", 1, [1, 2])]
        tree = Tree(("of", 2, parts))
        parts[1][2].append(3)
        parts.append(4)
        self.assertEqual(repr(tree), "Tree(('of', 2, [0, ('of', 1, [1, 2])]))")
        told = tree.shape
        told[2][1][2].append(5)
        told[2].clear()
        tree.members().clear()
        self.assertEqual(repr(tree), "Tree(('of', 2, [0, ('of', 1, [1, 2])]))")
        self.assertEqual((tree.members(), len(tree)), ([0, 1, 2], 3))

    def test_equality(self):
        trees = some_trees()
        for one in trees:
            for value in junk() + [one.shape]:
                self.assertIs(one == value, False)
            for other in trees:
                self.assertIs(one == other, one.shape == other.shape)
                self.assertIs(one != other, one.shape != other.shape)
        self.assertFalse(Tree.of(1, 0, 1) == Tree.of(1, 1, 0))
        self.assertFalse(Tree(0) == Tree.of(1, 0))


class TestLimits(Case):
    def test_leaves(self):
        self.assertEqual(len(Tree(("of", 1, list(range(24))))), 24)
        self.assertEqual(len(Tree(("of", 3, [0, 1, 2] * 8))), 24)
        for houses in (list(range(24)) + [0], [0] * 25, list(range(13)) * 2):
            self.refuse(TooMany, {"what": "leaves", "limit": 24}, Tree, shape=("of", 1, houses))

    def test_depth(self):
        self.assertEqual(depth_of(Tree(nested(5)).shape), 5)
        for shape in (nested(6), nested(9), ("of", 1, [0, nested(5)]), ("of", 1, [nested(5), 1])):
            self.refuse(TooMany, {"what": "depth", "limit": 5}, Tree, shape=shape)
        self.assertEqual(len(Tree(("of", 2, [1, 2, nested(4)]))), 3)

    def test_houses(self):
        self.assertEqual(len(Tree(("of", 1, list(range(8)) * 3)).members()), 8)
        self.assertEqual(len(Tree(("of", 1, list(range(9)))).members()), 9)
        for houses in (list(range(9)) + [0], list(range(20)) + [19]):
            self.refuse(TooMany, {"what": "houses", "limit": 8}, Tree, shape=("of", 1, houses))

    def test_their_sequence(self):
        self.refuse(TooMany, {"what": "leaves", "limit": 24}, Tree, shape=("of", 1, [nested(6)] * 25))
        self.refuse(TooMany, {"what": "depth", "limit": 5}, Tree,
                    shape=("of", 1, list(range(9)) + [nested(6)]))
        self.refuse(InvalidTree, {"value": ("of", 1, list(range(24)) + [24])}, Tree,
                    shape=("of", 1, list(range(24)) + [24]))


class TestOf(Case):
    def test_right_ones(self):
        self.assertEqual(Tree.of(1, 5), Tree(("of", 1, [5])))
        self.assertEqual(Tree.of(2, 0, Tree(1), Tree.of(1, 2, 3)), Tree(("of", 2, [0, 1, ("of", 1, [2, 3])])))
        self.assertEqual(Tree.of(24, *range(24)).shape, ("of", 24, list(range(24))))
        self.assertEqual(Tree(0).of(1, 2), Tree.of(1, 2))

    def refuse_of(self, wanted, value, number, *parts):
        with self.assertRaises(wanted) as caught:
            Tree.of(number, *parts)
        self.assertIs(type(caught.exception), wanted)
        self.assertIs(type(caught.exception.value), type(value))
        self.assertEqual(caught.exception.value, value)

    def test_wrong_parts(self):
        self.refuse_of(InvalidTree, (), 1)
        self.refuse_of(InvalidTree, (), None)
        with self.assertRaises(InvalidTree) as caught:
            Tree.of(number=1)
        self.assertEqual(caught.exception.value, ())
        for value in junk() + [24, ("of", 1, [0])]:
            if not (is_int(value) and value in HOUSES):
                self.refuse_of(InvalidTree, value, 1, value)
                self.refuse_of(InvalidTree, value, None, 0, Tree(1), value, None)

    def test_wrong_numbers(self):
        for value in junk() + [3, 4]:
            if not (is_int(value) and 1 <= value <= 2):
                self.refuse_of(InvalidNumber, value, value, 0, Tree(1))
        for number in (0, 25, True):
            self.refuse_of(InvalidNumber, number, number, *([0] * 24))

    def test_limits(self):
        for what, limit, parts in (("leaves", 24, [0] * 25), ("depth", 5, [Tree(nested(5))]),
                                   ("houses", 8, list(range(9)) + [0])):
            with self.assertRaises(TooMany) as caught:
                Tree.of(1, *parts)
            self.assertEqual((caught.exception.what, caught.exception.limit), (what, limit))
        self.refuse_of(InvalidNumber, 26, 26, *([0] * 25))


class TestOperators(Case):
    def test_contrary(self):
        for tree in some_trees():
            other, members = ~tree, tree.members()
            self.assertEqual(leaves_of(other.shape), leaves_of(tree.shape))
            self.assertEqual(~other, tree)
            for size in range(len(members) + 1):
                for houses in list(itertools.combinations(members, size))[:30]:
                    rest = [house for house in members if house not in houses]
                    self.assertIs(tree.stands(list(houses)), not other.stands(rest))
        self.assertEqual(~Tree(4), Tree(4))
        self.assertEqual(~Tree.of(1, 0, Tree.of(2, 1, 2)), Tree.of(2, 0, Tree.of(1, 1, 2)))
        self.assertEqual((~Tree(("of", 2, (0, 1, 2, 3)))).shape, ("of", 3, [0, 1, 2, 3]))

    def test_and_or(self):
        for one, other in zip(some_trees(20), some_trees(24)[4:]):
            if len(set(one.members() + other.members())) <= 8 and depth_of(one.shape) < 5 > depth_of(other.shape):
                both = one.shape, other.shape
                self.assertEqual((one & other).shape, ("of", 2, list(both)))
                self.assertEqual((one | other).shape, ("of", 1, list(both)))
                self.assertEqual((one.shape, other.shape), both)
        self.assertEqual(repr(Tree(1) & Tree(0)), "Tree(('of', 2, [1, 0]))")
        self.assertEqual(repr(Tree(1) | Tree(0)), "Tree(('of', 1, [1, 0]))")

    def test_what_is_no_tree(self):
        for value in junk() + [3, ("of", 1, [0])]:
            for call in (lambda: Tree(0) & value, lambda: Tree(0) | value):
                with self.assertRaises(InvalidTree) as caught:
                    call()
                self.assertIs(type(caught.exception.value), type(value))
                self.assertEqual(caught.exception.value, value)

    def test_limits(self):
        wide, deep, plain = Tree(("of", 1, list(range(20)))), Tree(nested(5)), Tree(("of", 1, list(range(7))))
        for call, told in ((lambda: wide & wide, ("leaves", 24)), (lambda: wide | wide, ("leaves", 24)),
                           (lambda: deep & Tree(0), ("depth", 5)), (lambda: Tree(0) | deep, ("depth", 5)),
                           (lambda: plain & Tree.of(1, 7, 8, 0), ("houses", 8)),
                           (lambda: plain | Tree.of(1, 7, 8, 0), ("houses", 8))):
            with self.assertRaises(TooMany) as caught:
                call()
            self.assertEqual((caught.exception.what, caught.exception.limit), told)
        self.assertEqual(len(plain & Tree.of(1, 7, 0)), 9)


if __name__ == "__main__":
    unittest.main()

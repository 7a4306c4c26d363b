"""Trees of houses: leaves, and gates of so many of their parts."""

from oneshelf.basics import is_count, is_integer, is_list, is_number_below
from oneshelf.errors import InvalidHouses, InvalidNumber, InvalidTree, TooMany

HOUSES = 24
MOST_LEAVES = 24
MOST_DEPTH = 5
MOST_MIXED = 8


def is_gate(value):
    """Whether any value is a gate if its parts are trees."""
    if not isinstance(value, tuple) or len(value) != 3:
        return False
    if not isinstance(value[0], str) or value[0] != "of":
        return False
    return is_list(value[2]) and is_count(value[1]) and 1 <= value[1] <= len(value[2])


def is_tree(value):
    """Whether any value is a tree."""
    waiting = [value]
    while len(waiting) > 0:
        part = waiting.pop()
        if is_gate(part):
            waiting.extend(part[2])
        elif not is_number_below(part, HOUSES):
            return False
    return True


def firm(shape):
    """The shape with tuples for lists."""
    if is_integer(shape):
        return shape
    return ("of", shape[1], tuple([firm(part) for part in shape[2]]))


def listed(shape):
    """The shape with new lists for its parts."""
    if is_integer(shape):
        return shape
    return ("of", shape[1], [listed(part) for part in shape[2]])


def leaves(shape):
    """The houses of the leaves, one behind another."""
    if is_integer(shape):
        return [shape]
    return [house for part in shape[2] for house in leaves(part)]


def depth(shape):
    """How many gates stand one within another."""
    if is_integer(shape):
        return 0
    return 1 + max([depth(part) for part in shape[2]])


def contrary(shape):
    """The shape of the contrary."""
    if is_integer(shape):
        return shape
    parts = [contrary(part) for part in shape[2]]
    return ("of", len(parts) + 1 - shape[1], parts)


def stands_in(shape, houses):
    """Whether a list of houses stands in a shape."""
    if is_integer(shape):
        return shape in houses
    return len([part for part in shape[2] if stands_in(part, houses)]) >= shape[1]


def are_houses(members, value):
    """Whether any value is a list of different ones of these houses."""
    if not is_list(value) or not all([is_number_below(house, HOUSES) for house in value]):
        return False
    unlike = {house: True for house in value}
    return len(unlike) == len(value) and all([house in members for house in value])


class Tree:
    """A tree of houses."""

    def __init__(self, shape):
        if not is_tree(shape):
            raise InvalidTree(shape)
        self._shape = firm(shape)
        self._leaves = tuple(leaves(shape))
        self._members = tuple([house for house in range(HOUSES) if house in self._leaves])
        if len(self._leaves) > MOST_LEAVES:
            raise TooMany("leaves", MOST_LEAVES)
        if depth(shape) > MOST_DEPTH:
            raise TooMany("depth", MOST_DEPTH)
        if len(self._members) < len(self._leaves) and len(self._members) > MOST_MIXED:
            raise TooMany("houses", MOST_MIXED)

    @staticmethod
    def of(number, *parts):
        """The gate of so many of these parts, each a Tree or a house."""
        if len(parts) == 0:
            raise InvalidTree(())
        shapes = []
        for part in parts:
            if isinstance(part, Tree):
                shapes.append(part.shape)
            elif is_number_below(part, HOUSES):
                shapes.append(part)
            else:
                raise InvalidTree(part)
        if not is_count(number) or not 1 <= number <= len(shapes):
            raise InvalidNumber(number)
        return Tree(("of", number, shapes))

    @property
    def shape(self):
        """The tree, its parts being lists."""
        return listed(self._shape)

    @property
    def is_plain(self):
        """Whether no house is at two leaves."""
        return len(self._leaves) == len(self._members)

    def members(self):
        """The houses, sorted."""
        return list(self._members)

    def stands(self, houses):
        """Whether a set of houses of the tree stands in it."""
        if not are_houses(self._members, houses):
            raise InvalidHouses(houses)
        return stands_in(self._shape, houses)

    def __len__(self):
        return len(self._leaves)

    def __contains__(self, x):
        return is_number_below(x, HOUSES) and x in self._members

    def __invert__(self):
        return Tree(contrary(self._shape))

    def __and__(self, other):
        if not isinstance(other, Tree):
            raise InvalidTree(other)
        return Tree(("of", 2, [self._shape, other._shape]))

    def __or__(self, other):
        if not isinstance(other, Tree):
            raise InvalidTree(other)
        return Tree(("of", 1, [self._shape, other._shape]))

    def __eq__(self, other):
        return isinstance(other, Tree) and self._shape == other._shape

    def __repr__(self):
        return f"Tree({self.shape!r})"

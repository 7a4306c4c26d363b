"""Votes of trees: counts by which just the standing sets come to enough, or trades that bar them."""

from math import gcd

from oneshelf.basics import is_count, is_list, is_number_below
from oneshelf.errors import TooMany
from oneshelf.loads import best_of
from oneshelf.meetings import mixed_meetings
from oneshelf.trees import HOUSES, are_houses

MOST_HOUSES = 8


def check_few(tree):
    """Refuse a tree with too many houses."""
    if len(tree.members()) > MOST_HOUSES:
        raise TooMany("houses", MOST_HOUSES)


def weak_sets(tree):
    """The greatest sets of houses that do not stand in the tree."""
    return [[house for house in tree.members() if house not in cut] for cut in mixed_meetings(~tree)]


def settled(tree, strong, weak):
    """The tuple (unit, amounts, prices) that settles whether a tree has votes or a trade.

    Strong sets get amounts that come to at most 1, likewise weak ones, no house more by strong ones than by weak ones:
    the strong ones come to 1 exactly if there is a trade. Else the prices of the houses are votes.
    """
    rows = [[int(house in houses) for houses in strong] + [-int(house in houses) for houses in weak]
            for house in tree.members()]
    rows = rows + [[0] * len(strong) + [1] * len(weak), [1] * len(strong) + [0] * len(weak)]
    bounds = [0] * len(tree.members()) + [1, 1]
    return best_of(rows, bounds, [1] * len(strong) + [0] * len(weak))


def votes(tree):
    """Votes of the tree; None if it has a trade."""
    check_few(tree)
    strong, weak = mixed_meetings(tree), weak_sets(tree)
    unit, amounts, prices = settled(tree, strong, weak)
    if sum(amounts[:len(strong)]) == unit:
        return None
    # The strong amounts stay below their bound, so it has no price: the strong sets come to 1, the weak ones to less.
    return (unit, dict(zip(tree.members(), prices)))


def repeated(lists, amounts):
    """Each list so many times, new each time."""
    return [list(houses) for houses, amount in zip(lists, amounts) for _ in range(amount)]


def filled_up(ones, others, house):
    """The lists of the one side with a house put in until it is in as many of them as of the other side."""
    wanting = len([True for houses in others if house in houses]) - len([True for houses in ones if house in houses])
    found = []
    for houses in ones:
        if wanting > 0 and house not in houses:
            found.append(sorted(houses + [house]))
            wanting = wanting - 1
        else:
            found.append(houses)
    return found


def trade(tree):
    """A trade of the tree; None if it has votes."""
    check_few(tree)
    strong, weak = mixed_meetings(tree), weak_sets(tree)
    unit, amounts, _ = settled(tree, strong, weak)
    if sum(amounts[:len(strong)]) < unit:
        return None
    # What the weak ones lack to be as many is put upon the first one, which only lets them have more.
    amounts[len(strong)] = amounts[len(strong)] + unit - sum(amounts[len(strong):])
    common = unit
    for amount in amounts:
        common = gcd(common, amount)
    amounts = [amount // common for amount in amounts]
    ones = repeated(strong, amounts[:len(strong)])
    others = repeated(weak, amounts[len(strong):])
    for house in tree.members():
        ones = filled_up(ones, others, house)
    return (ones, others)


def is_votes(tree, value):
    """Whether any value is votes of the tree."""
    check_few(tree)
    if not isinstance(value, tuple) or len(value) != 2:
        return False
    need, counts = value
    members = tree.members()
    if not is_count(need) or need == 0 or not isinstance(counts, dict) or len(counts) != len(members):
        return False
    if not all([is_number_below(house, HOUSES) and house in members for house in counts]):
        return False
    if not all([is_count(counts[house]) for house in members]):
        return False
    if not all([sum([counts[house] for house in houses]) >= need for houses in mixed_meetings(tree)]):
        return False
    return all([sum([counts[house] for house in houses]) < need for houses in weak_sets(tree)])


def are_sides(tree, value):
    """Whether any value is a tuple of two lists of equally many lists of different houses of the tree, at least one."""
    if not isinstance(value, tuple) or len(value) != 2 or not all([is_list(side) for side in value]):
        return False
    if len(value[0]) != len(value[1]) or len(value[0]) == 0:
        return False
    return all([are_houses(tree.members(), houses) for side in value for houses in side])


def is_trade(tree, value):
    """Whether any value is a trade of the tree."""
    check_few(tree)
    if not are_sides(tree, value):
        return False
    if not all([tree.stands(houses) for houses in value[0]]) or any([tree.stands(houses) for houses in value[1]]):
        return False
    ones, others = [[house for houses in side for house in houses] for side in value]
    return sorted(ones) == sorted(others)

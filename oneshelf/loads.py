"""Loads of trees: how evenly houses can be asked, with chances and weights that show it."""

from math import gcd, lcm

from oneshelf.basics import is_fraction, is_integer, is_list, is_number_below
from oneshelf.errors import InvalidChances, InvalidFraction
from oneshelf.meetings import is_meeting, mixed_meetings
from oneshelf.trees import HOUSES


def lowest(above, below):
    """The FRACTION that is one integer by another one above 0."""
    common = gcd(above, below)
    return (above // common, below // common)


def times(one, other):
    """The product of two FRACTIONS."""
    return lowest(one[0] * other[0], one[1] * other[1])


def turned(fraction):
    """1 by a FRACTION above 0."""
    return (fraction[1], fraction[0])


def is_at_most(one, other):
    """Whether the one FRACTION is at most the other one."""
    return one[0] * other[1] <= other[0] * one[1]


def scaled(fractions):
    """A number, and the list of integers that are the FRACTIONS times this number."""
    unit = 1
    for fraction in fractions:
        unit = lcm(unit, fraction[1])
    return unit, [fraction[0] * (unit // fraction[1]) for fraction in fractions]


def total(fractions):
    """The sum of FRACTIONS."""
    unit, numbers = scaled(fractions)
    return lowest(sum(numbers), unit)


def pivoted(rows, at, column, unit):
    """The rows behind a pivot; all of them are integers, their values times one unit."""
    chosen = rows[at]
    found = []
    for place, row in enumerate(rows):
        if place == at:
            found.append(row)
        else:
            found.append([(chosen[column] * x - row[column] * y) // unit for x, y in zip(row, chosen)])
    return found


def leaving(rows, column, basis):
    """The row that bounds a growing column first; of several the one of the least variable."""
    best = None
    for at, variable in enumerate(basis):
        if rows[at][column] > 0:
            if best is None:
                best = at
            new, old = rows[at][-1] * rows[best][column], rows[best][-1] * rows[at][column]
            if new < old or new == old and variable < basis[best]:
                best = at
    return best


def best_of(rows, bounds, gains):
    """A tuple (unit, amounts, prices) for bounded rows of integers: the amounts by which all gains are greatest.

    Each row's sum of amounts is at most its bound, a COUNT; the prices of the bounds come to the same gain. Amounts
    and prices are told times the unit. The least column always goes first, so that no basis comes again.
    """
    many = len(gains)
    table = [row + [0] * k + [1] + [0] * (len(rows) - 1 - k) + [bounds[k]] for k, row in enumerate(rows)]
    table.append([-gain for gain in gains] + [0] * (len(rows) + 1))
    basis = list(range(many, many + len(rows)))
    unit = 1
    growing = [column for column in range(many + len(rows)) if table[-1][column] < 0]
    while len(growing) > 0:
        at = leaving(table, growing[0], basis)
        chosen = table[at][growing[0]]
        table = pivoted(table, at, growing[0], unit)
        unit = chosen
        basis[at] = growing[0]
        growing = [column for column in range(many + len(rows)) if table[-1][column] < 0]
    amounts = [0] * (many + len(rows))
    for at, variable in enumerate(basis):
        amounts[variable] = table[at][-1]
    return unit, amounts[:many], table[-1][many:-1]


def mixed_best(tree):
    """The best amounts of the meetings of a tree of few houses, and prices of its houses."""
    found = mixed_meetings(tree)
    rows = [[int(house in houses) for houses in found] for house in tree.members()]
    return best_of(rows, [1] * len(rows), [1] * len(found))


def gate_load(need, loads):
    """The load of a gate of so many parts with these loads."""
    rest = loads
    while True:
        least = times((need - len(loads) + len(rest), 1), turned(total([turned(other) for other in rest])))
        # Parts with lesser loads are asked always, so the others share what is still needed.
        left = [other for other in rest if is_at_most(least, other)]
        if len(left) == len(rest):
            return least
        rest = left


def plain_load(shape):
    """The load of a plain shape."""
    if is_integer(shape):
        return (1, 1)
    return gate_load(shape[1], [plain_load(part) for part in shape[2]])


def load(tree):
    """The load of the tree."""
    if tree.is_plain:
        return plain_load(tree.shape)
    unit, amounts, _ = mixed_best(tree)
    return lowest(unit, sum(amounts))


def overlaid(pieces, need):
    """Chances by pieces (houses, FRACTION) that come to a whole number, this many of them at each moment.

    The pieces lie one behind another on a line; it is cut into lines of length 1, which lie above one another.
    """
    unit, lengths = scaled([length for _, length in pieces])
    begins = [sum(lengths[:k]) for k in range(len(lengths))]
    moments = sorted(set([begin % unit for begin in begins] + [0])) + [unit]
    found = {}
    for moment, later in zip(moments[:-1], moments[1:]):
        houses = []
        for row in range(need):
            at = len([begin for begin in begins if begin <= row * unit + moment]) - 1
            houses.extend(pieces[at][0])
        meeting = tuple(sorted(houses))
        found[meeting] = found.get(meeting, 0) + later - moment
    return [(list(meeting), lowest(found[meeting], unit)) for meeting in found]


def plain_chances(shape):
    """Chances of a plain shape with the least load."""
    if is_integer(shape):
        return [([shape], (1, 1))]
    loads = [plain_load(part) for part in shape[2]]
    least = gate_load(shape[1], loads)
    pieces = []
    for part, other in zip(shape[2], loads):
        number = (1, 1) if is_at_most(other, least) else times(least, turned(other))
        pieces.extend([(houses, times(number, chance)) for houses, chance in plain_chances(part)])
    return overlaid(pieces, shape[1])


def chances(tree):
    """Chances of the tree with the least load."""
    if tree.is_plain:
        return plain_chances(tree.shape)
    _, amounts, _ = mixed_best(tree)
    pairs = zip(mixed_meetings(tree), amounts)
    return [(houses, lowest(amount, sum(amounts))) for houses, amount in pairs if amount > 0]


def plain_weights(shape):
    """The dict from the houses of a plain shape to weights by which each meeting weighs its load."""
    if is_integer(shape):
        return {shape: (1, 1)}
    loads = [plain_load(part) for part in shape[2]]
    least = gate_load(shape[1], loads)
    whole = total([turned(other) for other in loads if is_at_most(least, other)])
    found = {}
    for part, other in zip(shape[2], loads):
        number = times(turned(other), turned(whole)) if is_at_most(least, other) else (0, 1)
        inner = plain_weights(part)
        for house in inner:
            found[house] = times(number, inner[house])
    return found


def weights(tree):
    """Weights by which each meeting of the tree weighs at least the load."""
    if tree.is_plain:
        found = plain_weights(tree.shape)
    else:
        _, _, prices = mixed_best(tree)
        found = {house: lowest(price, sum(prices)) for house, price in zip(tree.members(), prices)}
    return {house: found[house] for house in tree.members()}


def is_chance(tree, value):
    """Whether any value is a tuple of a meeting and a FRACTION above 0."""
    if not isinstance(value, tuple) or len(value) != 2:
        return False
    return is_meeting(tree, value[0]) and is_fraction(value[1]) and value[1][0] > 0


def are_chances(tree, value):
    """Whether any value is chances of the tree."""
    if not is_list(value) or not all([is_chance(tree, part) for part in value]):
        return False
    unlike = {tuple(sorted(houses)): True for houses, _ in value}
    return len(unlike) == len(value) and total([chance for _, chance in value]) == (1, 1)


def asked_by(tree, value):
    """The dict from the houses of the tree to what they are asked with by these chances."""
    return {house: total([chance for houses, chance in value if house in houses]) for house in tree.members()}


def asked(tree, value):
    """The dict from the houses of the tree to what they are asked with, if any value is chances."""
    if not are_chances(tree, value):
        raise InvalidChances(value)
    return asked_by(tree, value)


def check_fraction(value):
    """Refuse what is no FRACTION."""
    if not is_fraction(value):
        raise InvalidFraction(value)


def is_chances(tree, limit, value):
    """Whether any value is chances of the tree whose load is at most the limit."""
    check_fraction(limit)
    if not are_chances(tree, value):
        return False
    found = asked_by(tree, value)
    return all([is_at_most(found[house], limit) for house in found])


def are_weights(tree, value):
    """Whether any value is weights of the tree."""
    members = tree.members()
    if not isinstance(value, dict) or len(value) != len(members):
        return False
    if not all([is_number_below(house, HOUSES) and house in members for house in value]):
        return False
    if not all([is_fraction(value[house]) and value[house][0] >= 0 for house in members]):
        return False
    return total([value[house] for house in members]) == (1, 1)


def plain_lightest(shape, numbers):
    """The least sum of the numbers of a meeting of a plain shape."""
    if is_integer(shape):
        return numbers[shape]
    return sum(sorted([plain_lightest(part, numbers) for part in shape[2]])[:shape[1]])


def lightest(tree, numbers):
    """The least sum of the numbers of a meeting of the tree."""
    if tree.is_plain:
        return plain_lightest(tree.shape, numbers)
    return min([sum([numbers[house] for house in houses]) for houses in mixed_meetings(tree)])


def is_weights(tree, limit, value):
    """Whether any value is weights of the tree by which each meeting weighs at least the limit."""
    check_fraction(limit)
    if not are_weights(tree, value):
        return False
    unit, numbers = scaled([value[house] for house in tree.members()])
    return is_at_most(limit, (lightest(tree, dict(zip(tree.members(), numbers))), unit))

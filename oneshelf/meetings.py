"""The meetings and cuts of trees: how many, which, and how far two of them can keep apart."""

from oneshelf.basics import is_count, is_integer
from oneshelf.errors import TooMany
from oneshelf.trees import are_houses, stands_in

MOST_MEETINGS = 200
MOST_CUTS = 200


def lists_of(houses):
    """All lists of these ascending houses, ascending."""
    found = [[]]
    for house in houses:
        found = found + [some + [house] for some in found]
    return found


def stands_barely(shape, houses):
    """Whether a list of houses stands in a shape, and does not without any one of them."""
    if not stands_in(shape, houses):
        return False
    return not any([stands_in(shape, [other for other in houses if other != house]) for house in houses])


def mixed_meetings(tree):
    """The meetings of a tree of few houses, sorted, by trying all lists of them."""
    shape = tree.shape
    return sorted([houses for houses in lists_of(tree.members()) if stands_barely(shape, houses)])


def plain_count(shape):
    """How many meetings a plain shape has."""
    if is_integer(shape):
        return 1
    counts = [1] + [0] * shape[1]
    for part in shape[2]:
        many = plain_count(part)
        counts = [1] + [count + former * many for former, count in zip(counts[:-1], counts[1:])]
    return counts[-1]


def how_many(tree):
    """How many meetings the tree has."""
    if tree.is_plain:
        return plain_count(tree.shape)
    return len(mixed_meetings(tree))


def product_of(one, other):
    """The numbers of sets by their sizes, of all sets that are one of each of two kinds."""
    found = [0] * (len(one) + len(other) - 1)
    for size, many in enumerate(one):
        for more, times in enumerate(other):
            found[size + more] = found[size + more] + many * times
    return found


def sum_of(lists):
    """The sums of numbers at the same positions."""
    return [sum(list(numbers)) for numbers in zip(*lists)]


def plain_sizes(shape):
    """How many sets of houses, by their sizes, stand in a plain shape, and how many do not."""
    if is_integer(shape):
        return [0, 1], [1, 0]
    by_standing = [[1]]
    for part in shape[2]:
        standing_ones, other_ones = plain_sizes(part)
        with_part = [product_of(numbers, standing_ones) for numbers in by_standing]
        rest = [product_of(numbers, other_ones) for numbers in by_standing]
        nothing = [0] * len(rest[0])
        by_standing = [sum_of([one, other]) for one, other in zip([nothing] + with_part, rest + [nothing])]
    return sum_of(by_standing[shape[1]:]), sum_of(by_standing[:shape[1]])


def standing(tree):
    """At position j how many sets of j houses of the tree stand."""
    shape = tree.shape
    if tree.is_plain:
        return plain_sizes(shape)[0]
    found = [0] * (len(tree.members()) + 1)
    for houses in lists_of(tree.members()):
        if stands_in(shape, houses):
            found[len(houses)] = found[len(houses)] + 1
    return found


def unions(choices, need):
    """The lists of houses that are one list each of just so many of these choices."""
    if need == 0:
        return [[]]
    if need > len(choices):
        return []
    rest = unions(choices[1:], need - 1)
    return [some + more for some in choices[0] for more in rest] + unions(choices[1:], need)


def plain_meetings(shape):
    """The meetings of a plain shape."""
    if is_integer(shape):
        return [[shape]]
    return unions([plain_meetings(part) for part in shape[2]], shape[1])


def meetings_within(tree, what, limit):
    """The sorted list of the meetings of a tree that has no more than the limit lets."""
    if how_many(tree) > limit:
        raise TooMany(what, limit)
    if not tree.is_plain:
        return mixed_meetings(tree)
    return sorted([sorted(houses) for houses in plain_meetings(tree.shape)])


def meetings(tree):
    """All meetings of the tree."""
    return meetings_within(tree, "meetings", MOST_MEETINGS)


def cuts(tree):
    """All cuts of the tree."""
    return meetings_within(~tree, "cuts", MOST_CUTS)


def is_meeting(tree, value):
    """Whether any value is a list of just the houses of a meeting."""
    return are_houses(tree.members(), value) and stands_barely(tree.shape, value)


def is_cut(tree, value):
    """Whether any value is a list of just the houses of a cut."""
    return is_meeting(~tree, value)


def meeting_among(tree, houses):
    """A meeting that has none but these houses; None if there is none."""
    if not tree.stands(houses):
        return None
    kept = sorted(houses)
    for house in sorted(houses):
        fewer = [other for other in kept if other != house]
        if tree.stands(fewer):
            kept = fewer
    return kept


def cut_among(tree, houses):
    """A cut that has none but these houses; None if there is none."""
    return meeting_among(~tree, houses)


def common_houses(one, other):
    """How many houses two lists have in common."""
    return len([house for house in one if house in other])


def closest_of(ones, others):
    """A tuple of the fewest common houses of one of these lists and one of those, and these two."""
    best = None
    for one in ones:
        for other in others:
            found = common_houses(one, other)
            if best is None or found < best[0]:
                best = (found, one, other)
    return best


def plain_closest(shape):
    """A tuple of the own share of a plain shape, and two meetings that share no more."""
    if is_integer(shape):
        return (1, [shape], [shape])
    pairs = sorted([plain_closest(part) for part in shape[2]])
    # Both meetings stand in the parts with the least own shares, each one alone in as many of the others.
    both = max(0, 2 * shape[1] - len(pairs))
    rest = shape[1] - both
    ones = pairs[:both] + pairs[both:both + rest]
    others = pairs[:both] + pairs[both + rest:both + 2 * rest]
    one = [house for pair in ones for house in pair[1]]
    other = [house for pair in others for house in pair[2]]
    return (sum([pair[0] for pair in pairs[:both]]), sorted(one), sorted(other))


def closest_pair(tree):
    """A tuple of the own share of a tree, and two meetings that share no more."""
    if tree.is_plain:
        return plain_closest(tree.shape)
    found = mixed_meetings(tree)
    return closest_of(found, found)


def own_share(tree):
    """The least number of houses that two meetings of the tree have in common."""
    return closest_pair(tree)[0]


def closest(tree):
    """A tuple of two meetings that have no more houses in common."""
    pair = closest_pair(tree)
    return (pair[1], pair[2])


def share(one, other):
    """The least number of houses that a meeting of the one and one of the other have in common."""
    ones = meetings(one)
    return closest_of(ones, meetings(other))[0]


def apart(one, other):
    """The least tuple of a meeting of the one and one of the other that are apart; None if there is none."""
    ones = meetings(one)
    others = meetings(other)
    for houses in ones:
        for more in others:
            if common_houses(houses, more) == 0:
                return (houses, more)
    return None


def cuts_within(one, other):
    """The dict from the meetings of one to a cut of other that each of them has; None if two are apart."""
    ones = meetings(one)
    check_meetings(other)
    found = {}
    for houses in ones:
        cut = cut_among(other, [house for house in houses if house in other])
        if cut is None:
            return None
        found[tuple(houses)] = cut
    return found


def check_meetings(tree):
    """Refuse a tree with too many meetings."""
    if how_many(tree) > MOST_MEETINGS:
        raise TooMany("meetings", MOST_MEETINGS)


def are_counts(value):
    """Whether any value is a tuple of COUNTS."""
    return isinstance(value, tuple) and all([is_count(house) for house in value])


def are_cuts_within(one, other, value):
    """Whether any value is a dict from the meetings of one to cuts of other that each of them has."""
    ones = meetings(one)
    check_meetings(other)
    if not isinstance(value, dict) or len(value) != len(ones):
        return False
    if not all([are_counts(houses) for houses in value]):
        return False
    for houses in ones:
        cut = value.get(tuple(houses))
        if not is_cut(other, cut) or common_houses(cut, houses) < len(cut):
            return False
    return True

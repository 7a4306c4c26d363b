"""Rules of writing and reading on several houses, and which of them are right."""

from oneshelf.basics import is_count, is_integer, is_list, is_number_below
from oneshelf.errors import InvalidCount, InvalidNumber, InvalidTree, InvalidWord
from oneshelf.failures import OtherWriters
from oneshelf.meetings import common_houses, meetings
from oneshelf.trees import Tree

MOST_HOUSES = 5
WRITERS = ("one", "many", "blind")
BACKS = ("never", "always", "if unlike")


class Rule:
    """Houses, a tree of them for reading and one for writing, who writes, and whether reads write back."""

    def __init__(self, houses, reading, writing, writers="one", back="always"):
        if not is_count(houses) or not 1 <= houses <= MOST_HOUSES:
            raise InvalidCount(houses)
        for tree in (reading, writing):
            if not isinstance(tree, Tree) or not all([house < houses for house in tree.members()]):
                raise InvalidTree(tree)
        if not isinstance(writers, str) or writers not in WRITERS:
            raise InvalidWord(writers)
        if not isinstance(back, str) or back not in BACKS:
            raise InvalidWord(back)
        self._houses = houses
        self._reading = reading
        self._writing = writing
        self._writers = writers
        self._back = back

    @property
    def houses(self):
        """How many houses there are."""
        return self._houses

    @property
    def reading(self):
        """The Tree for reading."""
        return self._reading

    @property
    def writing(self):
        """The Tree for writing."""
        return self._writing

    @property
    def writers(self):
        """The word for the writers."""
        return self._writers

    @property
    def back(self):
        """The word for how reads write back."""
        return self._back

    def reading_meetings(self):
        """The meetings for reading, sorted, as ascending tuples."""
        return [tuple(houses) for houses in meetings(self._reading)]

    def writing_meetings(self):
        """The meetings for writing, sorted, as ascending tuples."""
        return [tuple(houses) for houses in meetings(self._writing)]

    def written(self):
        """The houses of any writing meeting, sorted."""
        found = self.writing_meetings()
        return [house for house in range(self._houses) if any([house in houses for houses in found])]

    def __eq__(self, other):
        if not isinstance(other, Rule) or self._houses != other._houses:
            return False
        if self._reading != other._reading or self._writing != other._writing:
            return False
        return self._writers == other._writers and self._back == other._back

    def __repr__(self):
        return f"Rule({self._houses}, {self._reading!r}, {self._writing!r}, {self._writers!r}, {self._back!r})"


def check_losing(rule, losing):
    """Refuse what is no number of houses of the rule that can lose."""
    if not is_count(losing) or losing > rule.houses:
        raise InvalidNumber(losing)


def shared(one, other):
    """The sorted list of the houses that two meetings share."""
    return [house for house in one if house in other]


def pairs_of(rule):
    """The tuples (reading meeting, writing meeting, houses that both share), sorted."""
    return [(one, other, shared(one, other)) for one in rule.reading_meetings() for other in rule.writing_meetings()]


def others_of(rule):
    """What a right paper tells, by the word for writing back, of the reading meetings, sorted."""
    found, written = rule.reading_meetings(), rule.written()
    if rule.back == "never":
        return [(one, shared(one, written)) for one in found]
    if rule.back == "always":
        return []
    inner = [one for one in found if common_houses(one, written) == len(one)]
    return [(one, other, shared(one, other)) for one in inner for other in found if one != other]


def is_right_with(rule, pairs, others, losing):
    """Whether a rule is right, by what its right paper would tell."""
    if rule.writers == "blind" or not all([len(pair[2]) > losing for pair in pairs]):
        return False
    if rule.back == "never":
        return losing == 0 and all([other[1] == others[0][1] for other in others])
    return all([len(other[2]) > losing for other in others])


def right_paper(rule, losing=0):
    """The right paper of the rule; None if it is not right."""
    check_losing(rule, losing)
    pairs, others = pairs_of(rule), others_of(rule)
    if not is_right_with(rule, pairs, others, losing):
        return None
    return (pairs, others)


def is_right(rule, losing=0):
    """Whether the rule is right with so many houses that lose."""
    return right_paper(rule, losing) is not None


def is_told(value, wanted):
    """Whether any value is what is wanted; a tuple will do for a list."""
    if is_integer(wanted):
        return is_integer(value) and value == wanted
    if isinstance(wanted, tuple) and not isinstance(value, tuple):
        return False
    if not is_list(value) or len(value) != len(wanted):
        return False
    return all([is_told(part, other) for part, other in zip(value, wanted)])


def is_right_paper(rule, value, losing=0):
    """Whether the rule is right, and any value is its right paper."""
    paper = right_paper(rule, losing)
    return paper is not None and is_told(value, paper)


def is_regular(rule):
    """Whether each read tells the last write that ended ahead of it, or a later one."""
    if rule.writers != "one":
        raise OtherWriters(rule.writers)
    return all([len(pair[2]) > 0 for pair in pairs_of(rule)])

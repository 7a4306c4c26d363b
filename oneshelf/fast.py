"""Councils whose first ballot goes without promises: what may be chosen, and when that is in doubt."""

from oneshelf.ballots import tuples_of
from oneshelf.basics import is_count, is_list, is_text
from oneshelf.errors import InvalidAsked, InvalidOwn, InvalidReplies
from oneshelf.failures import InDoubt
from oneshelf.meetings import are_counts


class Fast:
    """A tree for promises and one for first accepting."""

    def __init__(self, promise, first):
        self._promise = promise
        self._first = first
        self._asked = tuples_of(promise)
        self._firsts = tuples_of(first)

    @property
    def promise(self):
        """The Tree for promises."""
        return self._promise

    @property
    def first(self):
        """The Tree for first accepting."""
        return self._first

    def members(self):
        """The houses, sorted."""
        return sorted(list({house: True for house in self._promise.members() + self._first.members()}))

    def asked_ones(self):
        """The meetings for promises, as ascending tuples, sorted."""
        return list(self._asked)

    def first_ones(self):
        """The meetings for first accepting, as ascending tuples, sorted."""
        return list(self._firsts)

    def __eq__(self, other):
        return isinstance(other, Fast) and self._promise == other._promise and self._first == other._first

    def __repr__(self):
        return f"Fast({self._promise!r}, {self._first!r})"


def apart_within(asked, firsts):
    """Two meetings for first accepting that have no house in common among those that are asked; None."""
    parts = {}
    for meeting in firsts:
        parts.setdefault(tuple([house for house in meeting if house in asked]), meeting)
    # Of meetings with the same asked houses one will do, so that far fewer pairs are left.
    masks = [(sum([1 << house for house in part]), parts[part]) for part in parts]
    for mask, one in masks:
        for more, other in masks:
            if mask & more == 0:
                return (one, other)
    return None


def accepted_by(fast, ones, one, others, other):
    """The dict from all houses to the values of those that accept the one value, or the other one; None of the rest."""
    found = {}
    for house in fast.members():
        found[house] = one if house in ones else other if house in others else None
    return found


def doubt(fast):
    """A doubt; None if there is none."""
    for asked in fast.asked_ones():
        pair = apart_within(asked, fast.first_ones())
        if pair is not None:
            ones, others = pair
            one = accepted_by(fast, ones, "a", [house for house in others if house in asked], "b")
            other = accepted_by(fast, others, "b", [house for house in ones if house in asked], "a")
            return (asked, one, other)
    return None


def is_sure(fast):
    """Whether there is no doubt."""
    return doubt(fast) is None


def are_replies(houses, value):
    """Whether any value is a dict from just these houses to TEXTS or None."""
    if not isinstance(value, dict) or len(value) != len(houses):
        return False
    if not all([is_count(house) and house in houses for house in value]):
        return False
    return all([value[house] is None or is_text(value[house]) for house in value])


def chosen_by(fast, accepted):
    """The values of which all houses of a meeting for first accepting accepted one."""
    found = {}
    for meeting in fast.first_ones():
        values = [accepted[house] for house in meeting]
        if values[0] is not None and all([value == values[0] for value in values]):
            found[values[0]] = True
    return list(found)


def is_doubt(fast, value):
    """Whether any value is a doubt."""
    if not isinstance(value, tuple) or len(value) != 3:
        return False
    asked, one, other = value
    if not are_counts(asked) or asked not in fast.asked_ones():
        return False
    if not are_replies(fast.members(), one) or not are_replies(fast.members(), other):
        return False
    if not all([one[house] == other[house] for house in asked]):
        return False
    return any([worth != another for worth in chosen_by(fast, one) for another in chosen_by(fast, other)])


def check_replies(fast, asked, replies):
    """Refuse what is no meeting for promises, and what is no replies of it."""
    if not is_list(asked) or not are_counts(tuple(asked)) or tuple(asked) not in fast.asked_ones():
        raise InvalidAsked(asked)
    if not are_replies(asked, replies):
        raise InvalidReplies(replies)


def possible_values(fast, asked, replies):
    """The values among the replies that may be chosen, sorted."""
    parts = [[replies[house] for house in meeting if house in asked] for meeting in fast.first_ones()]
    told = {replies[house]: True for house in asked if replies[house] is not None}
    return [value for value in sorted(list(told)) if any([all([reply == value for reply in part]) for part in parts])]


def may_be_chosen(fast, asked, replies):
    """The sorted list of the values, among the replies, that may be chosen."""
    check_replies(fast, asked, replies)
    return possible_values(fast, asked, replies)


def picked(fast, asked, replies, own):
    """The value that the ballot picks."""
    check_replies(fast, asked, replies)
    if not is_text(own):
        raise InvalidOwn(own)
    if not is_sure(fast):
        raise InDoubt()
    possible = possible_values(fast, asked, replies)
    return possible[0] if len(possible) > 0 else own

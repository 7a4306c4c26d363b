"""Histories of calls on things: who called what, and what was answered when."""

from oneshelf.basics import is_count, is_list, is_name, is_number_below, is_text
from oneshelf.errors import (InvalidEntries, InvalidEntry, InvalidNames, InvalidNumber, InvalidNumbers, InvalidThings,
                             TooMany)
from oneshelf.kinds import ANSWERS, Kind

HANDS = 10


def is_shelf_call(value):
    """Whether any value is a call on a plain shelf."""
    if not isinstance(value, tuple) or len(value) == 0 or not isinstance(value[0], str):
        return False
    if value[0] == "read":
        return len(value) == 1
    return value[0] == "write" and len(value) == 2 and is_text(value[1])


def is_entry(value):
    """Whether any value is an entry."""
    if not isinstance(value, tuple) or len(value) < 3 or not isinstance(value[0], str):
        return False
    if not is_number_below(value[1], HANDS):
        return False
    if value[0] == "answer":
        return len(value) == 3 and (is_text(value[2]) or is_number_below(value[2], ANSWERS))
    if value[0] != "call" or len(value) != 4:
        return False
    return is_name(value[2]) and (is_name(value[3]) or is_shelf_call(value[3]))


def right_entries(entries):
    """How many of the first elements are entries of which each one is its hand's turn."""
    waiting = {}
    for position, entry in enumerate(entries):
        if not is_entry(entry) or (entry[0] == "answer") != waiting.get(entry[1], False):
            return position
        waiting[entry[1]] = entry[0] == "call"
    return len(entries)


def calls_among(entries):
    """The tuples (hand, name, call, begin, end, answer) of the calls of these entries."""
    found = []
    latest = {}
    for position, entry in enumerate(entries):
        if entry[0] == "call":
            latest[entry[1]] = len(found)
            found.append((entry[1], entry[2], entry[3], position, None, None))
        else:
            number = latest[entry[1]]
            found[number] = found[number][:4] + (position, entry[2])
    return found


class History:
    """Entries of calls and their answers."""

    MOST_ENTRIES = 240

    def __init__(self, entries):
        if not is_list(entries):
            raise InvalidEntries(None)
        right = right_entries(entries)
        if right < len(entries):
            raise InvalidEntries(right)
        if len(entries) > History.MOST_ENTRIES:
            raise TooMany("entries", History.MOST_ENTRIES)
        self._entries = tuple(entries)
        self._calls = tuple(calls_among(entries))

    def entries(self):
        """All entries."""
        return list(self._entries)

    def calls(self):
        """The tuples (hand, name, call, begin, end, answer) of all calls, in the sequence in which they begin."""
        return list(self._calls)

    def hands(self):
        """The hands that call, sorted."""
        return sorted(list({call[0]: True for call in self._calls}))

    def names(self):
        """The names of the things that are called, sorted."""
        return sorted(list({call[1]: True for call in self._calls}))

    def beginning(self, many):
        """The History of so many of the first entries."""
        if not is_count(many) or many > len(self._entries):
            raise InvalidNumber(many)
        return History(self._entries[:many])

    def about(self, names):
        """The History of the calls on the things of these names."""
        if not is_list(names):
            raise InvalidNames(None)
        for position, name in enumerate(names):
            if not is_name(name) or name in names[:position]:
                raise InvalidNames(position)
        return self.only([number for number, call in enumerate(self._calls) if call[1] in names])

    def only(self, numbers):
        """The History of the entries of these calls alone."""
        check_numbers(self, numbers)
        kept = {}
        for number in numbers:
            kept[self._calls[number][3]] = True
            kept[self._calls[number][4]] = True
        return History([entry for position, entry in enumerate(self._entries) if position in kept])

    def __len__(self):
        return len(self._calls)

    def __add__(self, other):
        more = self._entries + (other,)
        if right_entries(more) < len(more):
            raise InvalidEntry(other)
        return History(more)

    def __eq__(self, other):
        return isinstance(other, History) and self._entries == other._entries

    def __repr__(self):
        return f"History({self.entries()!r})"


def check_numbers(history, value):
    """Refuse what is no list of unlike numbers of calls."""
    if not is_list(value):
        raise InvalidNumbers(None)
    for position, number in enumerate(value):
        if not is_number_below(number, len(history)) or number in value[:position]:
            raise InvalidNumbers(position)


def is_at_first(value):
    """Whether any value is what a thing can be at first."""
    if not isinstance(value, tuple):
        return is_text(value)
    return len(value) == 2 and isinstance(value[0], Kind) and is_number_below(value[1], value[0].states)


def is_call_on(first, call):
    """Whether the call of an entry is one on a thing that is this at first."""
    if isinstance(first, str):
        return is_shelf_call(call)
    return first[0].has_call(call)


def are_things(history, value):
    """Whether any value is things of the history."""
    if not isinstance(value, dict):
        return False
    if not all([is_name(name) and is_at_first(value[name]) for name in value]):
        return False
    return all([call[1] in value and is_call_on(value[call[1]], call[2]) for call in history.calls()])


def check_things(history, value):
    """Refuse what is no things of the history."""
    if not are_things(history, value):
        raise InvalidThings(value)


def state_of(first):
    """What a thing is then if it is this at first: a text, or a state."""
    if isinstance(first, str):
        return first
    return first[1]


def done_on(first, now, call):
    """The tuple of what a call answers on a thing that is this at first, and that now, and what it is then."""
    if not isinstance(first, str):
        return first[0].after(now, call)
    if call[0] == "write":
        return ("", call[1])
    return (now, now)


def answers(history, things, numbers):
    """The list of the answers of these calls, done in this sequence, whatever the history tells."""
    check_things(history, things)
    check_numbers(history, numbers)
    calls = history.calls()
    now = {name: state_of(things[name]) for name in things}
    found = []
    for number in numbers:
        name, call = calls[number][1], calls[number][2]
        answer, now[name] = done_on(things[name], now[name], call)
        found.append(answer)
    return found


def is_before(calls, one, other):
    """Whether the one call of a list of them is ahead of the other one."""
    return calls[one][4] is not None and calls[one][4] < calls[other][3]

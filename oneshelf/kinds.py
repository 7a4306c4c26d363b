"""Kinds of things: their states, and what their calls answer and lead to."""

from oneshelf.basics import is_list, is_name, is_number_below
from oneshelf.errors import InvalidCalls, InvalidState, InvalidValues
from oneshelf.failures import UnknownCall

MOST_STATES = 8
MOST_CALLS = 4
ANSWERS = 100


def are_turns(value, states):
    """Whether any value is a list that has a tuple (answer, state) for each of so many states."""
    if not is_list(value) or len(value) != states:
        return False
    for turn in value:
        if not isinstance(turn, tuple) or len(turn) != 2:
            return False
        if not is_number_below(turn[0], ANSWERS) or not is_number_below(turn[1], states):
            return False
    return True


def states_of(value):
    """How many states the calls of a kind have whose first call has this value; 0 if it tells none."""
    if not is_list(value) or len(value) > MOST_STATES:
        return 0
    return len(value)


class Kind:
    """States, and calls with an answer and the next state for each of them."""

    def __init__(self, calls):
        if not isinstance(calls, dict) or not 1 <= len(calls) <= MOST_CALLS:
            raise InvalidCalls(None)
        if not all([is_name(name) for name in calls]):
            raise InvalidCalls(None)
        names = sorted(list(calls))
        states = states_of(calls[names[0]])
        for name in names:
            if states == 0 or not are_turns(calls[name], states):
                raise InvalidCalls(name)
        self._turns = {name: tuple(calls[name]) for name in names}
        self._many = states

    @property
    def states(self):
        """How many states there are."""
        return self._many

    def calls(self):
        """The names of the calls, sorted."""
        return sorted(list(self._turns))

    def after(self, state, call):
        """The tuple of what the call answers at the state, and the next state."""
        check_state(self, state)
        if not is_call(self, call):
            raise UnknownCall(call)
        return self._turns[call][state]

    def has_call(self, value):
        """Whether any value is a call of the kind."""
        return isinstance(value, str) and value in self._turns

    def __eq__(self, other):
        return isinstance(other, Kind) and self._turns == other._turns

    def __repr__(self):
        table = {name: list(self._turns[name]) for name in self._turns}
        return f"Kind({table!r})"


def is_call(kind, value):
    """Whether any value is a call of the kind."""
    return kind.has_call(value)


def check_state(kind, value):
    """Refuse what is no state of the kind."""
    if not is_number_below(value, kind.states):
        raise InvalidState(value)


def led(kind, state, calls):
    """The tuple of the list of the answers of calls that are done one by one, and the state behind them."""
    check_state(kind, state)
    if not is_list(calls):
        raise InvalidValues(None)
    for position, call in enumerate(calls):
        if not is_call(kind, call):
            raise InvalidValues(position)
    answers = []
    now = state
    for call in calls:
        answer, now = kind.after(now, call)
        answers.append(answer)
    return (answers, now)


def telling(kind, one, other):
    """The first of the shortest lists of calls whose answers from both states differ; None."""
    check_state(kind, one)
    check_state(kind, other)
    found = [(one, other, [])]
    seen = {(one, other): True}
    at = 0
    while at < len(found):
        left, right, path = found[at]
        for call in kind.calls():
            first, second = kind.after(left, call), kind.after(right, call)
            if first[0] != second[0]:
                return path + [call]
            if (first[1], second[1]) not in seen:
                seen[(first[1], second[1])] = True
                found.append((first[1], second[1], path + [call]))
        at = at + 1
    return None

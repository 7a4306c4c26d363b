"""Orders that explain histories, refusals, and what open calls can still answer."""

from oneshelf.basics import is_count, is_list, is_number_below, is_text
from oneshelf.errors import InvalidHand, TooMany
from oneshelf.histories import HANDS, check_things, done_on, state_of

MOST_CALLS = 8
MOST_SPOTS = 2000


class Steps:
    """The steps from spot to spot of a history on things; own ones heed only the sequence of each hand."""

    def __init__(self, history, things, is_own):
        self._calls = tuple(history.calls())
        hands = history.hands()
        self._names = tuple(history.names())
        self._firsts = tuple([things[name] for name in self._names])
        numbers = list(range(len(self._calls)))
        self._turns = tuple([tuple([k for k in numbers if self._calls[k][0] == hand]) for hand in hands])
        self._ended = tuple([len([k for k in turns if self._calls[k][4] is not None]) for turns in self._turns])
        self._needs = tuple([self.counts_ahead(k, is_own) for k in numbers])

    def counts_ahead(self, number, is_own):
        """For each hand how many of its first calls must be done ahead of a call."""
        if is_own:
            return (0,) * len(self._turns)
        begin = self._calls[number][3]
        ends = [[self._calls[k][4] for k in turns] for turns in self._turns]
        return tuple([len([end for end in row if end is not None and end < begin]) for row in ends])

    def first_spot(self):
        """The first spot."""
        return ((0,) * len(self._turns), tuple([state_of(first) for first in self._firsts]))

    def is_last(self, spot):
        """Whether all ended calls are done at a spot."""
        return all([count >= ended for count, ended in zip(spot[0], self._ended)])

    def behind(self, spot, hand):
        """The tuple (number, spot behind) of the step that does the next call of a hand, told by its place; None."""
        counts, states = spot
        if counts[hand] == len(self._turns[hand]):
            return None
        number = self._turns[hand][counts[hand]]
        if not all([count >= need for count, need in zip(counts, self._needs[number])]):
            return None
        call = self._calls[number]
        at = self._names.index(call[1])
        answer, state = done_on(self._firsts[at], states[at], call[2])
        if call[4] is not None and answer != call[5]:
            return None
        counts = counts[:hand] + (counts[hand] + 1,) + counts[hand + 1:]
        return (number, (counts, states[:at] + (state,) + states[at + 1:]))

    def steps_from(self, spot):
        """The tuples (number, spot behind) of all steps from a spot, sorted by their calls."""
        found = [self.behind(spot, hand) for hand in range(len(self._turns))]
        return sorted([step for step in found if step is not None])

    def spot_along(self, numbers):
        """The spot to which the steps of calls with these numbers lead; None if they are not possible."""
        spot = self.first_spot()
        for number in numbers:
            nexts = [step[1] for step in self.steps_from(spot) if step[0] == number]
            if len(nexts) == 0:
                return None
            spot = nexts[0]
        return spot

    def is_state(self, value, at):
        """Whether any value is what the thing of a name, told by its place, can be."""
        first = self._firsts[at]
        if isinstance(first, str):
            return is_text(value)
        return is_number_below(value, first[0].states)

    def is_spot(self, value):
        """Whether any value is a spot."""
        if not isinstance(value, tuple) or len(value) != 2:
            return False
        counts, states = value
        if not isinstance(counts, tuple) or len(counts) != len(self._turns):
            return False
        if not isinstance(states, tuple) or len(states) != len(self._names):
            return False
        if not all([is_count(count) and count <= len(turns) for count, turns in zip(counts, self._turns)]):
            return False
        return all([self.is_state(state, at) for at, state in enumerate(states)])


def spots_up_to(steps, limit):
    """The list of the first spot and all to which steps lead; if there are more than the limit, perhaps not all."""
    found = [steps.first_spot()]
    seen = {found[0]: True}
    at = 0
    while at < len(found) and (limit is None or len(found) <= limit):
        for _, spot in steps.steps_from(found[at]):
            if spot not in seen:
                seen[spot] = True
                found.append(spot)
        at = at + 1
    return found


def few_spots(history, steps):
    """All spots to which steps lead; too many calls or spots are refused."""
    if len(history) > MOST_CALLS:
        raise TooMany("calls", MOST_CALLS)
    found = spots_up_to(steps, MOST_SPOTS)
    if len(found) > MOST_SPOTS:
        raise TooMany("spots", MOST_SPOTS)
    return found


def is_ended_in(steps, spots):
    """Whether all ended calls are done at one of these spots."""
    return any([steps.is_last(spot) for spot in spots])


def first_way(steps, spots):
    """The first list of calls by which steps lead to a spot at which all ended ones are done; None."""
    ways = {}
    # Each step does one call more, so what is behind a spot is settled ahead of it.
    for spot in sorted(spots, key=calls_done, reverse=True):
        fit = [(number, ways[later]) for number, later in steps.steps_from(spot) if ways[later] is not None]
        if steps.is_last(spot):
            ways[spot] = []
        elif len(fit) == 0:
            ways[spot] = None
        else:
            ways[spot] = [fit[0][0]] + fit[0][1]
    return ways[steps.first_spot()]


def calls_done(spot):
    """How many calls are done at a spot."""
    return sum(list(spot[0]))


def are_refused(steps, spots):
    """The sorted list of all spots to which steps lead, if they are a refusal; None."""
    if is_ended_in(steps, spots):
        return None
    return sorted(spots)


def is_order(history, steps, value):
    """Whether any value is a list of calls whose steps lead to a spot at which all ended ones are done."""
    if not is_list(value) or not all([is_number_below(number, len(history)) for number in value]):
        return False
    spot = steps.spot_along(value)
    return spot is not None and steps.is_last(spot)


def are_closed(steps, value):
    """Whether any value is a refusal by these steps."""
    if not is_list(value) or not all([steps.is_spot(spot) for spot in value]):
        return False
    unlike = {spot: True for spot in value}
    if len(unlike) < len(value) or steps.first_spot() not in unlike or is_ended_in(steps, value):
        return False
    return all([later in unlike for spot in value for _, later in steps.steps_from(spot)])


def is_explained(history, things):
    """Whether some order explains the history."""
    check_things(history, things)
    steps = Steps(history, things, False)
    return is_ended_in(steps, few_spots(history, steps))


def explains(history, things, value):
    """Whether any value is an order that explains the history."""
    check_things(history, things)
    return is_order(history, Steps(history, things, False), value)


def order(history, things):
    """The first order that explains the history; None."""
    check_things(history, things)
    steps = Steps(history, things, False)
    return first_way(steps, few_spots(history, steps))


def refusal(history, things):
    """The sorted list of the first spot and all to which steps lead, if it is a refusal; None."""
    check_things(history, things)
    steps = Steps(history, things, False)
    return are_refused(steps, few_spots(history, steps))


def is_refusal(history, things, value):
    """Whether any value is a refusal of the history."""
    check_things(history, things)
    return are_closed(Steps(history, things, False), value)


def has_order(history, things):
    """Whether some order explains a history of few calls."""
    steps = Steps(history, things, False)
    return is_ended_in(steps, spots_up_to(steps, None))


def first_refused(history, things):
    """How many entries the shortest beginning has that is not explained; None."""
    check_things(history, things)
    few_spots(history, Steps(history, things, False))
    for many in range(len(history.entries()) + 1):
        if not has_order(history.beginning(many), things):
            return many
    return None


def answers_of(history, first, call):
    """All that a call on a thing that is this at first could answer."""
    if not isinstance(first, str):
        return [first[0].after(state, call[2])[0] for state in range(first[0].states)]
    if call[2][0] == "write":
        return [""]
    return [first] + [other[2][1] for other in history.calls() if other[1] == call[1] and other[2][0] == "write"]


def can_answer(history, things, hand):
    """The sorted list of the answers that the open call of the hand can still give."""
    check_things(history, things)
    waiting = [call for call in history.calls() if is_number_below(hand, HANDS) and call[0] == hand and call[4] is None]
    if len(waiting) == 0:
        raise InvalidHand(hand)
    few_spots(history, Steps(history, things, False))
    found = sorted(set(answers_of(history, things[waiting[0][1]], waiting[0])))
    return [answer for answer in found if has_order(history + ("answer", hand, answer), things)]

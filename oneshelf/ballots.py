"""Councils of houses, ballot by ballot: promises, what houses hold, and what is chosen."""

from oneshelf.basics import is_count, is_list, is_text
from oneshelf.errors import InvalidRun
from oneshelf.meetings import apart, are_counts, meetings

MOST_STEPS = 400


def tuples_of(tree):
    """The meetings of a tree as ascending tuples, sorted."""
    return tuple([tuple(houses) for houses in meetings(tree)])


class Council:
    """A tree for promises and one for accepting."""

    def __init__(self, promise, accept):
        self._promise = promise
        self._accept = accept
        self._asked = tuples_of(promise)
        self._told = tuples_of(accept)

    @property
    def promise(self):
        """The Tree for promises."""
        return self._promise

    @property
    def accept(self):
        """The Tree for accepting."""
        return self._accept

    def members(self):
        """The houses, sorted."""
        return sorted(list({house: True for house in self._promise.members() + self._accept.members()}))

    def is_asked(self, value):
        """Whether any value is a meeting for promises."""
        return are_counts(value) and value in self._asked

    def is_told_to(self, value):
        """Whether any value is a meeting for accepting."""
        return are_counts(value) and value in self._told

    def __eq__(self, other):
        return isinstance(other, Council) and self._promise == other._promise and self._accept == other._accept

    def __repr__(self):
        return f"Council({self._promise!r}, {self._accept!r})"


class Ballot:
    """A ballot that was started: whom it asked, what they replied, and what it told whom."""

    def __init__(self, own, asked):
        self.own = own
        self.asked = asked
        self.replies = {}
        self.told = None
        self.worth = None
        self.accepted = {}


def best_reply(replies):
    """The reply with the greatest ballot among those of a dict; None if all are None."""
    held = [replies[house] for house in replies if replies[house] is not None]
    return max(held) if len(held) > 0 else None


class Voting:
    """A council and what came of the steps of a run so far."""

    def __init__(self, council):
        self._council = council
        self._promised = {house: None for house in council.members()}
        self._held = {house: None for house in council.members()}
        self._ballots = {}

    def can(self, value):
        """Whether any value is a step that can be done now, however many were done."""
        if not isinstance(value, tuple) or len(value) < 3 or not isinstance(value[0], str) or not is_count(value[1]):
            return False
        if value[0] == "start":
            return len(value) == 4 and self.can_start(value[1], value[2], value[3])
        if len(value) != 3 or value[1] not in self._ballots:
            return False
        if value[0] == "promise":
            return self.can_promise(value[1], value[2])
        if value[0] == "tell":
            return self.can_tell(value[1], value[2])
        return value[0] == "accept" and self.can_accept(value[1], value[2])

    def can_start(self, number, own, asked):
        """Whether a ballot of this number can start with any values as its own one and as whom it asks."""
        return number not in self._ballots and is_text(own) and self._council.is_asked(asked)

    def is_below(self, house, number):
        """Whether a house has not promised to a ballot that is greater than so many."""
        return self._promised[house] is None or self._promised[house] <= number

    def can_promise(self, number, house):
        """Whether any value is a house that can promise to a ballot."""
        if not is_count(house) or house not in self._ballots[number].asked:
            return False
        return self._promised[house] is None or self._promised[house] < number

    def can_tell(self, number, told):
        """Whether a ballot can tell any value as a meeting."""
        ballot = self._ballots[number]
        if ballot.told is not None or len(ballot.replies) < len(ballot.asked):
            return False
        return self._council.is_told_to(told)

    def can_accept(self, number, house):
        """Whether any value is a house that can accept a ballot."""
        ballot = self._ballots[number]
        if ballot.told is None or not is_count(house) or house not in ballot.told:
            return False
        return house not in ballot.accepted and self.is_below(house, number)

    def do(self, step):
        """Do a step that can be done."""
        word, number = step[0], step[1]
        if word == "start":
            self._ballots[number] = Ballot(step[2], step[3])
            return
        ballot = self._ballots[number]
        if word == "tell":
            best = best_reply(ballot.replies)
            ballot.told = step[2]
            ballot.worth = ballot.own if best is None else best[1]
            return
        self._promised[step[2]] = number
        if word == "promise":
            ballot.replies[step[2]] = self._held[step[2]]
        else:
            ballot.accepted[step[2]] = True
            self._held[step[2]] = (number, ballot.worth)

    def told_states(self):
        """The dict from all houses to the tuples (promise, held)."""
        return {house: (self._promised[house], self._held[house]) for house in self._promised}

    def told_ballots(self):
        """The dict from the ballots that were started to the tuples (own, asked, replies, told, value)."""
        found = {}
        for number in sorted(list(self._ballots)):
            ballot = self._ballots[number]
            replies = {house: ballot.replies[house] for house in sorted(list(ballot.replies))}
            found[number] = (ballot.own, ballot.asked, replies, ballot.told, ballot.worth)
        return found

    def chosen_ones(self):
        """The sorted list of the tuples (ballot, value) of the ballots that are chosen."""
        told = [number for number in sorted(list(self._ballots)) if self._ballots[number].told is not None]
        return [(number, self._ballots[number].worth) for number in told
                if len(self._ballots[number].accepted) == len(self._ballots[number].told)]


def voted(council, run):
    """What came of a run."""
    if not is_list(run) or len(run) > MOST_STEPS:
        raise InvalidRun(None)
    voting = Voting(council)
    for position, step in enumerate(run):
        if not voting.can(step):
            raise InvalidRun(position)
        voting.do(step)
    return voting


def goes_on(voting, value):
    """Whether any value is a list of at most as many steps as a run has that can be done; they are done."""
    if not is_list(value) or len(value) > MOST_STEPS:
        return False
    for step in value:
        if not voting.can(step):
            return False
        voting.do(step)
    return True


def is_council_run(council, value):
    """Whether any value is a run of the council."""
    return goes_on(Voting(council), value)


def can_be_done(council, run, value):
    """Whether any value is a step that can be done behind the run."""
    voting = voted(council, run)
    return len(run) < MOST_STEPS and voting.can(value)


def house_states(council, run):
    """The dict from all houses to the tuples (promise, held) at the end of the run."""
    return voted(council, run).told_states()


def ballots(council, run):
    """The dict from the ballots of the run to the tuples (own, asked, replies, told, value)."""
    return voted(council, run).told_ballots()


def chosen(council, run):
    """The sorted list of the tuples (ballot, value) of the ballots that are chosen."""
    return voted(council, run).chosen_ones()


def is_safe(council):
    """Whether in no run unlike values are chosen."""
    return apart(council.promise, council.accept) is None


def whole_ballot(number, own, asked, told):
    """The steps of a ballot all by itself, up to its being chosen."""
    steps = [("start", number, own, asked)] + [("promise", number, house) for house in asked]
    return steps + [("tell", number, told)] + [("accept", number, house) for house in told]


def two_values(council):
    """A run that chooses two values; None if the council is safe."""
    pair = apart(council.promise, council.accept)
    if pair is None:
        return None
    asked, told = tuple(pair[0]), tuple(pair[1])
    return whole_ballot(1, "a", asked, told) + whole_ballot(2, "b", asked, told)


def is_two(council, value):
    """Whether any value is a run that chooses two values."""
    voting = Voting(council)
    if not goes_on(voting, value):
        return False
    return len({worth: True for _, worth in voting.chosen_ones()}) > 1

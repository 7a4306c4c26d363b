"""Pictures of houses and letters, and their lines."""

from oneshelf.basics import is_count, is_list, is_number_below, is_text
from oneshelf.errors import InvalidCut, InvalidEvent, InvalidLine, InvalidRows, TooMany
from oneshelf.failures import UnknownLetter

MOST_HOUSES = 6
MOST_EVENTS = 120


def is_deed_of(value, house, many):
    """Whether any value is an event that this one of so many houses can have."""
    if not isinstance(value, tuple) or len(value) < 2 or not isinstance(value[0], str):
        return False
    if value[0] == "do":
        return len(value) == 2 and is_text(value[1])
    if value[0] == "hear":
        return len(value) == 2 and is_count(value[1])
    if value[0] != "say" or len(value) != 4:
        return False
    if not is_number_below(value[2], many) or value[2] == house:
        return False
    return is_count(value[1]) and is_text(value[3])


def sent_letters(rows):
    """The tuples (letter, to) of all that is said in these rows, in wrong ones too."""
    sent = {}
    for house, row in enumerate(rows):
        if is_list(row):
            for what in row:
                if is_deed_of(what, house, len(rows)) and what[0] == "say":
                    sent[(what[1], what[2])] = True
    return sent


def right_rows(rows):
    """How many of the first rows are right; what wrong rows say is said all the same."""
    sent = sent_letters(rows)
    done = {}
    for house, row in enumerate(rows):
        if not is_list(row):
            return house
        for what in row:
            if not is_deed_of(what, house, len(rows)):
                return house
            if what[0] == "hear" and (what[1], house) not in sent:
                return house
            if what[0] != "do":
                if (what[0], what[1]) in done:
                    return house
                done[(what[0], what[1])] = True
    return len(rows)


def events_by_letter(rows, word):
    """The dict from the letters that are said, or heard, to the event (house, place) by which they are."""
    found = {}
    for house, row in enumerate(rows):
        for place, what in enumerate(row):
            if what[0] == word:
                found[what[1]] = (house, place)
    return found


def is_ready(done, house, needs):
    """Whether all that the next event of a house needs is done."""
    for other, place in needs.get((house, done[house]), ()):
        if done[other] <= place:
            return False
    return True


def steps_between(start, goal, needs):
    """The first sequence of houses by which the events between two cuts are done, as far as they can be."""
    done = list(start)
    steps = []
    house = 0
    while house < len(done):
        if done[house] < goal[house] and is_ready(done, house, needs):
            done[house] = done[house] + 1
            steps.append(house)
            house = 0
        else:
            house = house + 1
    return steps


def events_along(many, line):
    """The events (house, place) of so many houses, in the sequence in which a line does them."""
    done = [0] * many
    events = []
    for house in line:
        events.append((house, done[house]))
        done[house] = done[house] + 1
    return events


def clocks_along(many, line, needs):
    """The dict from the events of a line to their clocks."""
    latest = [(0,) * many] * many
    clocks = {}
    for house, place in events_along(many, line):
        clock = list(latest[house])
        for event in needs.get((house, place), ()):
            clock = [max(one, other) for one, other in zip(clock, clocks[event])]
        clock[house] = place + 1
        latest[house] = tuple(clock)
        clocks[(house, place)] = latest[house]
    return clocks


class Picture:
    """Houses, each with a row of events."""

    def __init__(self, rows):
        if not is_list(rows) or len(rows) == 0:
            raise InvalidRows(None)
        right = right_rows(rows)
        if right < len(rows):
            raise InvalidRows(right)
        self._rows = tuple([tuple(row) for row in rows])
        self._said = events_by_letter(self._rows, "say")
        self._heard = events_by_letter(self._rows, "hear")
        self._needs = {self._heard[letter]: (self._said[letter],) for letter in self._heard}
        line = steps_between([0] * len(self._rows), self.sizes(), self._needs)
        if len(line) < sum(self.sizes()):
            raise InvalidRows(None)
        if len(self._rows) > MOST_HOUSES:
            raise TooMany("houses", MOST_HOUSES)
        if len(line) > MOST_EVENTS:
            raise TooMany("events", MOST_EVENTS)
        self._events = tuple(sorted(events_along(len(self._rows), line)))
        self._clocks = clocks_along(len(self._rows), line, self._needs)

    @property
    def houses(self):
        """How many houses there are."""
        return len(self._rows)

    def rows(self):
        """The events of each house."""
        return [list(row) for row in self._rows]

    def events(self):
        """All events, as (house, place), sorted."""
        return list(self._events)

    def letters(self):
        """All letters that are said, sorted."""
        return sorted(list(self._said))

    def said(self, letter):
        """The event that says a letter."""
        if not is_count(letter) or letter not in self._said:
            raise UnknownLetter(letter)
        return self._said[letter]

    def heard(self, letter):
        """The event that hears a letter; None if it is not heard."""
        if not is_count(letter) or letter not in self._said:
            raise UnknownLetter(letter)
        return self._heard.get(letter)

    def beginning(self, cut):
        """The Picture of the events of a cut alone."""
        check_cut(self, cut)
        return Picture([row[:count] for row, count in zip(self._rows, cut)])

    def sizes(self):
        """The tuple of how many events each house has."""
        return tuple([len(row) for row in self._rows])

    def needs(self):
        """The dict from the events that hear a letter to the list of the event that says it."""
        return {event: list(self._needs[event]) for event in self._needs}

    def sayer(self, event):
        """The event that says the letter which an event of the picture hears; None if it hears none."""
        for said in self._needs.get(event, ()):
            return said
        return None

    def clock_of(self, event):
        """The clock of an event of the picture."""
        return self._clocks[event]

    def has_places(self, value):
        """Whether any value is places of the picture."""
        if not isinstance(value, tuple) or len(value) != len(self._rows):
            return False
        return all([is_count(count) and count <= len(row) for count, row in zip(value, self._rows)])

    def too_soon(self, places):
        """The first event within the places that hears what is not said within them; None."""
        for event in self._events:
            said = self.sayer(event)
            if said is not None and event[1] < places[event[0]] and said[1] >= places[said[0]]:
                return event
        return None

    def has_cut(self, value):
        """Whether any value is a cut of the picture."""
        return self.has_places(value) and self.too_soon(value) is None

    def __len__(self):
        return len(self._events)

    def __contains__(self, x):
        if not isinstance(x, tuple) or len(x) != 2:
            return False
        return is_number_below(x[0], len(self._rows)) and is_number_below(x[1], len(self._rows[x[0]]))

    def __getitem__(self, at):
        if at not in self:
            raise InvalidEvent(at)
        return self._rows[at[0]][at[1]]

    def __iter__(self):
        raise TypeError("a picture is not iterated over")

    def __eq__(self, other):
        return isinstance(other, Picture) and self._rows == other._rows

    def __repr__(self):
        return f"Picture({self.rows()!r})"


def check_event(picture, value):
    """Refuse what is no event of the picture."""
    if value not in picture:
        raise InvalidEvent(value)


def check_cut(picture, value):
    """Refuse what is no cut of the picture."""
    if not picture.has_cut(value):
        raise InvalidCut(value)


def steps_that_go(picture, line):
    """How many of the first elements of a list some line begins with."""
    sizes = picture.sizes()
    needs = picture.needs()
    done = [0] * picture.houses
    for position, house in enumerate(line):
        if not is_number_below(house, picture.houses) or done[house] == sizes[house]:
            return position
        if not is_ready(done, house, needs):
            return position
        done[house] = done[house] + 1
    return len(line)


def check_line(picture, value):
    """Refuse what is no line of the picture."""
    if not is_list(value) or len(value) != len(picture):
        raise InvalidLine(None)
    going = steps_that_go(picture, value)
    if going < len(value):
        raise InvalidLine(going)


def least_line(picture):
    """The first line of the picture, sorted."""
    return steps_between([0] * picture.houses, picture.sizes(), picture.needs())


def is_line(picture, value):
    """Whether any value is a line of the picture."""
    return is_list(value) and len(value) == len(picture) and steps_that_go(picture, value) == len(value)

"""Calls of a kind done by the lines of a picture: where they end, and what the deeds are answered."""

from oneshelf.basics import is_list
from oneshelf.errors import TooMany
from oneshelf.failures import NotOfKind
from oneshelf.kinds import check_state, is_call
from oneshelf.pictures import check_line, events_along, is_line, is_ready, steps_between

MOST_PLACES = 3000


def deeds(picture):
    """The events ("do", text) of the picture, sorted."""
    return [event for event in picture.events() if picture[event][0] == "do"]


def check_of_kind(kind, picture):
    """Refuse a picture with a deed that is no call of the kind."""
    for event in deeds(picture):
        if not is_call(kind, picture[event][1]):
            raise NotOfKind(event)


def done_along(kind, picture, state, line):
    """The tuple of the dict from the deeds to their answers along a line, and the state at its end."""
    answers = {}
    now = state
    for event in events_along(picture.houses, line):
        if picture[event][0] == "do":
            answers[event], now = kind.after(now, picture[event][1])
    return ({event: answers[event] for event in deeds(picture)}, now)


def line_end(kind, picture, state, line):
    """The tuple of the dict from the deeds to their answers along the line, and the state at its end."""
    check_state(kind, state)
    check_line(picture, line)
    check_of_kind(kind, picture)
    return done_along(kind, picture, state, line)


def ready_houses(picture, cut, needs):
    """The houses whose next event can be done at a cut."""
    sizes = picture.sizes()
    return [house for house in range(len(cut)) if cut[house] < sizes[house] and is_ready(cut, house, needs)]


def next_place(kind, picture, place, house):
    """The place behind the next event of a house."""
    cut, state = place
    what = picture[(house, cut[house])]
    if what[0] == "do":
        state = kind.after(state, what[1])[1]
    return (cut[:house] + (cut[house] + 1,) + cut[house + 1:], state)


def places_from(kind, picture, state):
    """The dict from all places to the tuple (place, house) by which lines come there first; None for the first one."""
    check_state(kind, state)
    check_of_kind(kind, picture)
    needs = picture.needs()
    waiting = [((0,) * picture.houses, state)]
    found = {waiting[0]: None}
    at = 0
    while at < len(waiting):
        place = waiting[at]
        for house in ready_houses(picture, place[0], needs):
            later = next_place(kind, picture, place, house)
            if later not in found:
                found[later] = (place, house)
                waiting.append(later)
        if len(found) > MOST_PLACES:
            raise TooMany("places", MOST_PLACES)
        at = at + 1
    return found


def last_places(picture, places):
    """The places at which lines end, sorted."""
    return sorted([place for place in places if place[0] == picture.sizes()])


def line_by(picture, places, place, houses):
    """A line that comes to a place, does the next events of these houses, and goes on somehow."""
    line = []
    step = places[place]
    while step is not None:
        line = [step[1]] + line
        step = places[step[0]]
    line = line + houses
    done = [line.count(house) for house in range(picture.houses)]
    return line + steps_between(done, picture.sizes(), picture.needs())


def ends(kind, picture, state):
    """The sorted list of the states at which lines end."""
    return [place[1] for place in last_places(picture, places_from(kind, picture, state))]


def do_end_alike(kind, picture, state):
    """Whether all lines end at one state."""
    return len(ends(kind, picture, state)) == 1


def unlike_ends(kind, picture, state):
    """A tuple of two lines that end at unlike states; None."""
    places = places_from(kind, picture, state)
    found = last_places(picture, places)
    if len(found) == 1:
        return None
    return (line_by(picture, places, found[0], []), line_by(picture, places, found[-1], []))


def next_deeds(picture, cut):
    """The houses whose next event at a cut is a deed; it can always be done."""
    sizes = picture.sizes()
    return [house for house in range(len(cut)) if cut[house] < sizes[house]
            and picture[(house, cut[house])][0] == "do"]


def unlike_places(kind, picture, places):
    """A tuple (place, other place, house) of places that give the house's next deed unlike answers; None."""
    first = {}
    for place in places:
        cut, state = place
        for house in next_deeds(picture, cut):
            event = (house, cut[house])
            answer = kind.after(state, picture[event][1])[0]
            if event not in first:
                first[event] = (answer, place)
            elif first[event][0] != answer:
                return (first[event][1], place, house)
    return None


def do_answer_alike(kind, picture, state):
    """Whether each deed has one answer in all lines."""
    return unlike_places(kind, picture, places_from(kind, picture, state)) is None


def unlike_answers(kind, picture, state):
    """A tuple of two lines with unlike answers to a deed; None."""
    places = places_from(kind, picture, state)
    found = unlike_places(kind, picture, places)
    if found is None:
        return None
    one, other, house = found
    return (line_by(picture, places, one, [house]), line_by(picture, places, other, [house]))


def are_two_lines(picture, value):
    """Whether any value is a tuple of two lines."""
    return isinstance(value, tuple) and len(value) == 2 and all([is_line(picture, line) for line in value])


def are_unlike_ends(kind, picture, state, value):
    """Whether any value is a tuple of two lines that end at unlike states."""
    places_from(kind, picture, state)
    if not are_two_lines(picture, value):
        return False
    return done_along(kind, picture, state, value[0])[1] != done_along(kind, picture, state, value[1])[1]


def are_unlike_answers(kind, picture, state, value):
    """Whether any value is a tuple of two lines with unlike answers to a deed."""
    places_from(kind, picture, state)
    if not are_two_lines(picture, value):
        return False
    return done_along(kind, picture, state, value[0])[0] != done_along(kind, picture, state, value[1])[0]


def do_exchange(kind, state, call, other):
    """Whether two calls exchange at a state."""
    answer, now = kind.after(state, call)
    other_later, end = kind.after(now, other)
    other_answer, now = kind.after(state, other)
    later, other_end = kind.after(now, call)
    return answer == later and other_answer == other_later and end == other_end


def pairs_that_bar(kind, picture, place):
    """The tuples (cut, state, house, later house) of a place whose next deeds do not exchange, sorted."""
    cut, state = place
    calls = {house: picture[(house, cut[house])][1] for house in next_deeds(picture, cut)}
    return [(cut, state, one, other) for one in calls for other in calls
            if one < other and not do_exchange(kind, state, calls[one], calls[other])]


def not_exchanging(kind, picture, state):
    """The first tuple (cut, state, house, later house) of next deeds that do not exchange; None."""
    for place in sorted(list(places_from(kind, picture, state))):
        found = pairs_that_bar(kind, picture, place)
        if len(found) > 0:
            return found[0]
    return None


def is_exchanging(kind, picture, state):
    """Whether at each place any two next deeds exchange."""
    return not_exchanging(kind, picture, state) is None

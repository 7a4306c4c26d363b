"""What is ahead of what in a picture, and lines with neighbours exchanged."""

from oneshelf.basics import is_list, is_number_below
from oneshelf.errors import TooMany
from oneshelf.pictures import check_event, check_line, events_along, least_line, steps_between

MOST_POSITIONS = 4000


def stands_ahead(picture, first, second):
    """Whether one event of the picture is ahead of another one."""
    return first != second and picture.clock_of(second)[first[0]] > first[1]


def is_ahead(picture, first, second):
    """Whether first is ahead of second."""
    check_event(picture, first)
    check_event(picture, second)
    return stands_ahead(picture, first, second)


def followers(picture, event):
    """The events that can stand behind an event in a chain, sorted."""
    house, place = event
    found = []
    if (house, place + 1) in picture:
        found.append((house, place + 1))
    what = picture[event]
    if what[0] == "say" and picture.heard(what[1]) is not None:
        found.append(picture.heard(what[1]))
    return sorted(found)


def steps_to(picture, goal):
    """The dict from the goal and all events ahead of it to the fewest steps of a chain to it."""
    steps = {goal: 0}
    line = events_along(picture.houses, least_line(picture))
    for event in reversed(list(line)):
        known = [steps[later] for later in followers(picture, event) if later in steps]
        if event != goal and len(known) > 0:
            steps[event] = 1 + min(known)
    return steps


def chain(picture, first, second):
    """Of the shortest chains from first to second the first one; None if there is none."""
    check_event(picture, first)
    check_event(picture, second)
    if not stands_ahead(picture, first, second):
        return None
    steps = steps_to(picture, second)
    found = [first]
    while found[-1] != second:
        left = steps[found[-1]]
        nearer = [event for event in followers(picture, found[-1]) if steps.get(event, left) < left]
        found.append(nearer[0])
    return found


def is_chain(picture, first, second, value):
    """Whether any value is a chain from first to second."""
    check_event(picture, first)
    check_event(picture, second)
    if not is_list(value) or len(value) < 2:
        return False
    if not all([event in picture for event in value]):
        return False
    if value[0] != first or value[-1] != second:
        return False
    return all([later in followers(picture, event) for event, later in zip(value[:-1], value[1:])])


def clock(picture, event):
    """How many events of each house are ahead of the event, or are it."""
    check_event(picture, event)
    return picture.clock_of(event)


def line_against(picture, first, second):
    """The first line in which second stands ahead of first; None if there is none."""
    check_event(picture, first)
    check_event(picture, second)
    if first == second or stands_ahead(picture, first, second):
        return None
    needs = picture.needs()
    needs.setdefault(first, []).append(second)
    return steps_between([0] * picture.houses, picture.sizes(), needs)


def can_exchange(picture, event, later):
    """Whether two neighbours in a line can be exchanged."""
    return event[0] != later[0] and picture.sayer(later) != event


def exchanges(picture, line):
    """The positions of all elements of the line that can be exchanged with the next one."""
    check_line(picture, line)
    events = events_along(picture.houses, line)
    return [k for k in range(len(events) - 1) if can_exchange(picture, events[k], events[k + 1])]


def positions_between(one, other):
    """The fewest positions of exchanges that lead from one list to another one of the same unlike elements."""
    now = list(one)
    found = []
    for goal, element in enumerate(other):
        at = now.index(element)
        found.extend(list(range(at - 1, goal - 1, -1)))
        now.pop(at)
        now.insert(goal, element)
    return found


def way(picture, one, other):
    """The fewest positions of exchanges that lead from one line to the other one."""
    check_line(picture, one)
    check_line(picture, other)
    found = positions_between(events_along(picture.houses, one), events_along(picture.houses, other))
    if len(found) > MOST_POSITIONS:
        raise TooMany("positions", MOST_POSITIONS)
    return found


def is_way(picture, one, other, value):
    """Whether any value is a list of positions of exchanges that lead from one line to the other one."""
    check_line(picture, one)
    check_line(picture, other)
    if not is_list(value):
        return False
    now = events_along(picture.houses, one)
    for k in value:
        if not is_number_below(k, len(now) - 1) or not can_exchange(picture, now[k], now[k + 1]):
            return False
        now[k], now[k + 1] = now[k + 1], now[k]
    return now == events_along(picture.houses, other)

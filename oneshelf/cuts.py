"""Cuts of a picture: the least and the greatest ones, and how lines pass and note them."""

from oneshelf.basics import is_list
from oneshelf.errors import InvalidEvent, InvalidPlaces, TooMany
from oneshelf.pictures import check_cut, check_event, check_line, is_ready, steps_between

MOST_CUTS = 2000


def check_places(picture, value):
    """Refuse what is no places of the picture."""
    if not picture.has_places(value):
        raise InvalidPlaces(value)


def is_cut(picture, value):
    """Whether any value is a cut of the picture."""
    return picture.has_cut(value)


def later_of(one, other):
    """The greater count of two tuples for each house."""
    return tuple([max(count, another) for count, another in zip(one, other)])


def least_cut(picture, events):
    """The least cut with these events."""
    if not is_list(events):
        raise InvalidEvent(events)
    for event in events:
        check_event(picture, event)
    cut = (0,) * picture.houses
    for event in events:
        cut = later_of(cut, picture.clock_of(event))
    return cut


def pulled(places, event):
    """The places behind a pull of this event."""
    return places[:event[0]] + (event[1],) + places[event[0] + 1:]


def pulls(picture, places):
    """Pulls for the places, in the sequence of the events as far as this goes."""
    check_places(picture, places)
    now = places
    found = []
    event = picture.too_soon(now)
    while event is not None:
        found.append(event)
        now = pulled(now, event)
        event = picture.too_soon(now)
    return found


def greatest_cut(picture, places):
    """The greatest cut within the places."""
    cut = places
    for event in pulls(picture, places):
        cut = pulled(cut, event)
    return cut


def are_pulls(picture, places, value):
    """Whether any value is pulls for the places."""
    check_places(picture, places)
    if not is_list(value):
        return False
    now = places
    for event in value:
        if event not in picture or event[1] >= now[event[0]]:
            return False
        said = picture.sayer(event)
        if said is None or said[1] < now[said[0]]:
            return False
        now = pulled(now, event)
    return picture.has_cut(now)


def line_through(picture, cut):
    """The first line that passes the cut."""
    check_cut(picture, cut)
    needs = picture.needs()
    return steps_between([0] * picture.houses, cut, needs) + steps_between(cut, picture.sizes(), needs)


def on_the_way(picture, cut):
    """The letters that are said, but not heard in the cut, sorted."""
    check_cut(picture, cut)
    found = []
    for letter in picture.letters():
        said = picture.said(letter)
        heard = picture.heard(letter)
        if said[1] < cut[said[0]] and (heard is None or heard[1] >= cut[heard[0]]):
            found.append(letter)
    return found


def notes_here(picture, places, notes, event):
    """Whether the house of an event, which has not noted yet, notes right ahead of it."""
    said = picture.sayer(event)
    if event[1] == places[event[0]]:
        return True
    return said is not None and notes[said[0]] is not None and said[1] >= notes[said[0]]


def noted(picture, line, places):
    """The places that the houses note as the line goes."""
    check_line(picture, line)
    check_places(picture, places)
    notes = [None] * picture.houses
    done = [0] * picture.houses
    for house in line:
        if notes[house] is None and notes_here(picture, places, notes, (house, done[house])):
            notes[house] = done[house]
        done[house] = done[house] + 1
    return tuple([count if note is None else note for note, count in zip(notes, done)])


def next_cuts(picture, cut, needs):
    """The cuts with one event more, house by house."""
    sizes = picture.sizes()
    ready = [house for house in range(len(cut)) if cut[house] < sizes[house] and is_ready(cut, house, needs)]
    return [cut[:house] + (cut[house] + 1,) + cut[house + 1:] for house in ready]


def cuts_up_to(picture, limit):
    """All cuts of the picture, sorted; more than the limit lets, but perhaps not all, where there are more."""
    needs = picture.needs()
    found = [(0,) * picture.houses]
    seen = {found[0]: True}
    at = 0
    while at < len(found) and len(found) <= limit:
        cut = found[at]
        for later in next_cuts(picture, cut, needs):
            if later not in seen:
                seen[later] = True
                found.append(later)
        at = at + 1
    return sorted(found)


def all_cuts(picture):
    """All cuts of the picture, sorted."""
    found = cuts_up_to(picture, MOST_CUTS)
    if len(found) > MOST_CUTS:
        raise TooMany("cuts", MOST_CUTS)
    return found

"""How far houses have to go back when some of them fall, and what letters written down spare them."""

from oneshelf.basics import is_count, is_list, is_number_below
from oneshelf.errors import InvalidFallen, InvalidHouse, InvalidMany, InvalidWritten
from oneshelf.kept import check_kept, hearings, settled
from oneshelf.meetings import lists_of
from oneshelf.pictures import check_event


def check_fallen(picture, value):
    """Refuse what is no list of unlike houses."""
    if not is_list(value):
        raise InvalidFallen(None)
    for position, house in enumerate(value):
        if not is_number_below(house, picture.houses) or house in value[:position]:
            raise InvalidFallen(position)


def is_heard(picture, value):
    """Whether any value is a letter that is heard."""
    return is_count(value) and value in picture.letters() and picture.heard(value) is not None


def check_written(picture, value):
    """Refuse what is no list of unlike letters that are heard."""
    if not is_list(value):
        raise InvalidWritten(None)
    for position, letter in enumerate(value):
        if not is_heard(picture, letter) or letter in value[:position]:
            raise InvalidWritten(position)


def check_fall(picture, kept, fallen, written):
    """Refuse what does not fit a question what is undone."""
    check_kept(picture, kept)
    check_fallen(picture, fallen)
    check_written(picture, written)


def states_left(row, states, has_fallen, written):
    """The sorted list of the states that are left of a house with these events and kept states."""
    held = list(states[:-1]) if has_fallen and len(states) > 1 else list(states)
    found = {state: True for state in held}
    # Whatever the house came to again it goes on from there, so one walk over its events is enough.
    for place, what in enumerate(row):
        if place in found and (what[0] != "hear" or what[1] in written):
            found[place + 1] = True
    return sorted(list(found))


def all_left(picture, kept, fallen, written):
    """For each house the sorted list of the states that are left."""
    return [states_left(row, kept[house], house in fallen, written) for house, row in enumerate(picture.rows())]


def left_states(picture, kept, fallen, house, written=()):
    """The sorted list of the states that are left of the house."""
    check_kept(picture, kept)
    check_fallen(picture, fallen)
    if not is_number_below(house, picture.houses):
        raise InvalidHouse(house)
    check_written(picture, written)
    return states_left(picture.rows()[house], kept[house], house in fallen, written)


def remaining_of(picture, kept, fallen, written):
    """The greatest cut all states of which are left."""
    return settled(picture, all_left(picture, kept, fallen, written), False)


def remaining(picture, kept, fallen, written=()):
    """The remaining cut."""
    check_fall(picture, kept, fallen, written)
    return remaining_of(picture, kept, fallen, written)


def undone_of(picture, kept, fallen, written):
    """The sorted list of the undone events."""
    cut = remaining_of(picture, kept, fallen, written)
    return [event for event in picture.events() if event[1] >= cut[event[0]]]


def undone(picture, kept, fallen, written=()):
    """The sorted list of the undone events."""
    check_fall(picture, kept, fallen, written)
    return undone_of(picture, kept, fallen, written)


def greatest_left(states, place):
    """The greatest of these states that is at most a place."""
    return [state for state in states if state <= place][-1]


def undoings_from(picture, left, fallen):
    """Tuples (undoing, number of the one that brings it about, None for a fall), in the sequence in which they come."""
    found = [((house, left[house][-1], None), None) for house in fallen]
    at = 0
    while at < len(found):
        house, state, _ = found[at][0]
        for said, heard in hearings(picture):
            if said[0] == house and said[1] >= state:
                told = (heard[0], greatest_left(left[heard[0]], heard[1]), picture[heard][1])
                if not any([other[0][0] == told[0] and other[0][1] <= told[1] for other in found]):
                    found.append((told, at))
        at = at + 1
    return found


def check_undone(picture, kept, fallen, event, written):
    """Refuse what does not fit a question whether an event is undone."""
    check_kept(picture, kept)
    check_fallen(picture, fallen)
    check_event(picture, event)
    check_written(picture, written)


def undoings(picture, kept, fallen, event, written=()):
    """A row of undoings that shows that the event is undone; None if it is not."""
    check_undone(picture, kept, fallen, event, written)
    found = undoings_from(picture, all_left(picture, kept, fallen, written), fallen)
    fit = [number for number, (told, _) in enumerate(found) if told[0] == event[0] and told[1] <= event[1]]
    if len(fit) == 0:
        return None
    row = []
    number = fit[0]
    while number is not None:
        row.append(found[number][0])
        number = found[number][1]
    return row[::-1]


def is_undoing(picture, left, fallen, former, value):
    """Whether any value can stand in a row of undoings behind those that stand ahead."""
    if not isinstance(value, tuple) or len(value) != 3 or not is_number_below(value[0], picture.houses):
        return False
    house, state, letter = value
    if not is_count(state):
        return False
    if letter is None:
        return house in fallen and state == left[house][-1]
    if not is_heard(picture, letter) or picture.heard(letter)[0] != house:
        return False
    said = picture.said(letter)
    if not any([told[0] == said[0] and told[1] <= said[1] for told in former]):
        return False
    return state == greatest_left(left[house], picture.heard(letter)[1])


def is_undoings(picture, kept, fallen, event, value, written=()):
    """Whether any value is a row of undoings that shows that the event is undone."""
    check_undone(picture, kept, fallen, event, written)
    if not is_list(value) or len(value) == 0:
        return False
    left = all_left(picture, kept, fallen, written)
    for position, told in enumerate(value):
        if not is_undoing(picture, left, fallen, value[:position], told):
            return False
    return value[-1][0] == event[0] and value[-1][1] <= event[1]


def worst(picture, kept, many, written=()):
    """A tuple (number, houses): the most events undone if so many houses fall, and the least list of such houses."""
    check_kept(picture, kept)
    if not is_count(many) or many > picture.houses:
        raise InvalidMany(many)
    check_written(picture, written)
    lists = sorted([houses for houses in lists_of(list(range(picture.houses))) if len(houses) == many])
    numbers = [len(undone_of(picture, kept, houses, written)) for houses in lists]
    return (max(numbers), lists[numbers.index(max(numbers))])


def with_state(kept, spot):
    """The kept states with one further one."""
    found = {house: list(kept[house]) for house in kept}
    found[spot[0]] = sorted(found[spot[0]] + [spot[1]])
    return found


def further(picture, kept, fallen, written=()):
    """A tuple (number, spot): the fewest events undone with one further kept state, and the least such one; None."""
    check_fall(picture, kept, fallen, written)
    spots = [(house, state) for house, size in enumerate(picture.sizes()) for state in range(size)
             if state not in kept[house]]
    found = [(len(undone_of(picture, with_state(kept, spot), fallen, written)), spot) for spot in spots]
    return min(found) if len(found) > 0 else None


def letters_needed(picture, kept):
    """The sorted list of the letters to write down."""
    found = []
    for house, row in enumerate(picture.rows()):
        begin = kept[house][-2] if len(kept[house]) > 1 else 0
        end = max([0] + [said[1] + 1 for said, _ in hearings(picture) if said[0] == house])
        found.extend([what[1] for what in row[begin:end] if what[0] == "hear"])
    return sorted(found)


def to_write(picture, kept):
    """The sorted list of the letters to write down."""
    check_kept(picture, kept)
    return letters_needed(picture, kept)


def are_enough(picture, kept, written):
    """Whether no event of a house that has not fallen is undone, whichever houses fall."""
    check_kept(picture, kept)
    check_written(picture, written)
    return all([letter in written for letter in letters_needed(picture, kept)])


def first_loss(picture, kept, written):
    """The least house by the fall of which alone an event of another house is undone; None if there is none."""
    check_kept(picture, kept)
    check_written(picture, written)
    for house in range(picture.houses):
        if any([event[0] != house for event in undone_of(picture, kept, [house], written)]):
            return house
    return None

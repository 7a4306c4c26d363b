"""Kept states of the houses of a picture, and the cuts all states of which are kept."""

from oneshelf.basics import is_count, is_list, is_number_below
from oneshelf.errors import InvalidKept, InvalidSpots


def are_rising(value, size):
    """Whether any value is a rising list of states of a house with so many events, with the first and the last one."""
    if not is_list(value) or len(value) == 0 or not all([is_count(state) for state in value]):
        return False
    if value[0] != 0 or value[-1] != size:
        return False
    return all([state < later for state, later in zip(value[:-1], value[1:])])


def is_kept(picture, value):
    """Whether any value is kept states of the picture."""
    if not isinstance(value, dict) or len(value) != picture.houses:
        return False
    if not all([is_number_below(house, picture.houses) for house in value]):
        return False
    return all([are_rising(value[house], size) for house, size in enumerate(picture.sizes())])


def check_kept(picture, value):
    """Refuse what is no kept states of the picture."""
    if not is_kept(picture, value):
        raise InvalidKept(value)


def ends(picture):
    """The kept states with first and last states alone."""
    return {house: [0, size] if size > 0 else [0] for house, size in enumerate(picture.sizes())}


def is_spot(kept, value):
    """Whether any value is a tuple of a house and a kept state of it."""
    if not isinstance(value, tuple) or len(value) != 2 or not is_number_below(value[0], len(kept)):
        return False
    return is_count(value[1]) and value[1] in kept[value[0]]


def check_spots(kept, value):
    """Refuse what is no list of spots of unlike houses."""
    if not is_list(value):
        raise InvalidSpots(None)
    for position, spot in enumerate(value):
        if not is_spot(kept, spot) or spot[0] in [other[0] for other in value[:position]]:
            raise InvalidSpots(position)


def all_spots(kept):
    """All spots, sorted."""
    return [(house, state) for house in range(len(kept)) for state in kept[house]]


def states_let(kept, spots):
    """For each house the list of the kept states that it can have where some spots are told."""
    found = [list(kept[house]) for house in range(len(kept))]
    for house, state in spots:
        found[house] = [state]
    return found


def hearings(picture):
    """The tuples (saying, hearing) of the events of all letters that are heard, by the sequence of the letters."""
    found = [(picture.said(letter), picture.heard(letter)) for letter in picture.letters()]
    return [pair for pair in found if pair[1] is not None]


def settled(picture, states, is_least):
    """The least, or the greatest, cut all states of which are among these of the houses; None if there is none."""
    left = [row if is_least else row[::-1] for row in states]
    pairs = hearings(picture)
    moved = True
    while moved:
        moved = False
        for said, heard in pairs:
            # Only the house that says can come to more events, only the one that hears to fewer.
            house = said[0] if is_least else heard[0]
            if len(left[said[0]]) == 0 or len(left[heard[0]]) == 0:
                return None
            if left[heard[0]][0] > heard[1] and left[said[0]][0] <= said[1]:
                left[house] = left[house][1:]
                moved = True
    if not all([len(row) > 0 for row in left]):
        return None
    return tuple([row[0] for row in left])


def check_kept_spots(picture, kept, spots):
    """Refuse what is no kept states, and no spots of them."""
    check_kept(picture, kept)
    check_spots(kept, spots)


def least_kept_cut(picture, kept, spots=()):
    """The least kept cut with these spots; None if they do not stand together."""
    check_kept_spots(picture, kept, spots)
    return settled(picture, states_let(kept, spots), True)


def greatest_kept_cut(picture, kept, spots=()):
    """The greatest kept cut with these spots; None if they do not stand together."""
    check_kept_spots(picture, kept, spots)
    return settled(picture, states_let(kept, spots), False)


def useless(picture, kept):
    """The sorted list of the spots that no kept cut has."""
    check_kept(picture, kept)
    return [spot for spot in all_spots(kept) if settled(picture, states_let(kept, [spot]), True) is None]

"""Zigzags of letters between kept states: why spots do not stand together, and what is tracked."""

from oneshelf.basics import is_count, is_list
from oneshelf.errors import InvalidSpot
from oneshelf.kept import all_spots, check_kept, check_kept_spots, hearings, is_spot


def check_spot_pair(picture, kept, one, other):
    """Refuse what is no kept states, and what is no spot of them."""
    check_kept(picture, kept)
    for spot in (one, other):
        if not is_spot(kept, spot):
            raise InvalidSpot(spot)


def heard_letters(picture):
    """The dict from the letters that are heard to the tuples (saying, hearing) of their events, sorted."""
    found = [letter for letter in picture.letters() if picture.heard(letter) is not None]
    return {letter: (picture.said(letter), picture.heard(letter)) for letter in found}


def stretch_of(kept, event):
    """The kept state with which the stretch of an event begins."""
    return [state for state in kept[event[0]] if state <= event[1]][-1]


def goes_on(kept, hearing, saying, direct):
    """Whether a zigzag can go on from the hearing of a letter to the saying of the next one."""
    if hearing[0] != saying[0]:
        return False
    if direct:
        return saying[1] > hearing[1]
    return saying[1] >= stretch_of(kept, hearing)


def begins_behind(saying, spot):
    """Whether a letter is said behind a spot by its house."""
    return saying[0] == spot[0] and saying[1] >= spot[1]


def ends_ahead(hearing, spot):
    """Whether a letter is heard ahead of a spot by its house."""
    return hearing[0] == spot[0] and hearing[1] < spot[1]


def next_letters(kept, letters, direct):
    """The dict from the letters to the sorted lists of those that can come next."""
    return {letter: [other for other in letters if goes_on(kept, letters[letter][1], letters[other][0], direct)]
            for letter in letters}


def letters_to(nexts, last):
    """The dict from the letters that lead to one of the last ones to how few letters do, themselves counted."""
    many = {letter: 1 for letter in last}
    former = {letter: [] for letter in nexts}
    for letter in nexts:
        for other in nexts[letter]:
            former[other].append(letter)
    found = list(last)
    at = 0
    while at < len(found):
        for letter in former[found[at]]:
            if letter not in many:
                many[letter] = many[found[at]] + 1
                found.append(letter)
        at = at + 1
    return many


def shortest(picture, kept, one, other, direct):
    """Of the zigzags from one spot to another one with the fewest letters the least list; None if there is none."""
    letters = heard_letters(picture)
    nexts = next_letters(kept, letters, direct)
    many = letters_to(nexts, [letter for letter in letters if ends_ahead(letters[letter][1], other)])
    found = []
    choice = [letter for letter in many if begins_behind(letters[letter][0], one)]
    while len(choice) > 0:
        found.append(min([(many[letter], letter) for letter in choice])[1])
        if many[found[-1]] == 1:
            return found
        choice = [letter for letter in nexts[found[-1]] if letter in many]
    return None


def zigzag(picture, kept, one, other):
    """Of the zigzags from one spot to another one with the fewest letters the least list; None if there is none."""
    check_spot_pair(picture, kept, one, other)
    return shortest(picture, kept, one, other, False)


def straight(picture, kept, one, other):
    """Of the straight zigzags from one spot to another one with the fewest letters the least list; None."""
    check_spot_pair(picture, kept, one, other)
    return shortest(picture, kept, one, other, True)


def leads(picture, kept, one, other, value, direct):
    """Whether any value is a zigzag from one spot to another one."""
    letters = heard_letters(picture)
    if not is_list(value) or len(value) == 0 or not all([is_count(letter) and letter in letters for letter in value]):
        return False
    if not begins_behind(letters[value[0]][0], one) or not ends_ahead(letters[value[-1]][1], other):
        return False
    return all([goes_on(kept, letters[letter][1], letters[later][0], direct)
                for letter, later in zip(value[:-1], value[1:])])


def is_zigzag(picture, kept, one, other, value):
    """Whether any value is a zigzag from one spot to the other one."""
    check_spot_pair(picture, kept, one, other)
    return leads(picture, kept, one, other, value, False)


def is_straight(picture, kept, one, other, value):
    """Whether any value is a straight zigzag from one spot to the other one."""
    check_spot_pair(picture, kept, one, other)
    return leads(picture, kept, one, other, value, True)


def barrier(picture, kept, spots):
    """A tuple (spot, zigzag, spot) of a zigzag between two of the spots, or from one to itself; None."""
    check_kept_spots(picture, kept, spots)
    for one in spots:
        for other in spots:
            found = shortest(picture, kept, one, other, False)
            if found is not None:
                return (one, found, other)
    return None


def is_barrier(picture, kept, spots, value):
    """Whether any value is a tuple (spot, zigzag, spot) of a zigzag between two of the spots."""
    check_kept_spots(picture, kept, spots)
    if not isinstance(value, tuple) or len(value) != 3:
        return False
    for spot in (value[0], value[2]):
        if not is_spot(kept, spot) or spot not in spots:
            return False
    return leads(picture, kept, value[0], value[2], value[1], False)


def soonest(letters, nexts, spot):
    """The dict from the houses to the least place at which a zigzag from a spot is heard there."""
    found = [letter for letter in letters if begins_behind(letters[letter][0], spot)]
    seen = {letter: True for letter in found}
    places = {}
    at = 0
    while at < len(found):
        house, place = letters[found[at]][1]
        places[house] = min(place, places.get(house, place))
        for letter in nexts[found[at]]:
            if letter not in seen:
                seen[letter] = True
                found.append(letter)
        at = at + 1
    return places


def untracked(picture, kept):
    """The least tuple (spot, spot) that shows that the kept states are not tracked; None if they are."""
    check_kept(picture, kept)
    letters = heard_letters(picture)
    ways, rows = next_letters(kept, letters, False), next_letters(kept, letters, True)
    for one in all_spots(kept):
        found, sooner = soonest(letters, ways, one), soonest(letters, rows, one)
        for other in all_spots(kept):
            house, state = other
            if (house != one[0] or state <= one[1]) and house in found and found[house] < state:
                if house not in sooner or sooner[house] >= state:
                    return (one, other)
    return None


def is_tracked(picture, kept):
    """Whether wherever a zigzag leads to a spot that is not behind, a straight one does, too."""
    return untracked(picture, kept) is None


def out_of_order(picture, kept):
    """The least tuple (house, place, place) of a saying and a hearing behind it in one stretch; None."""
    check_kept(picture, kept)
    pairs = hearings(picture)
    for said in sorted([pair[0] for pair in pairs]):
        for heard in sorted([pair[1] for pair in pairs]):
            if said[0] == heard[0] and said[1] < heard[1] and stretch_of(kept, said) == stretch_of(kept, heard):
                return (said[0], said[1], heard[1])
    return None

"""Flags on the states of houses: whether they stand perhaps, or surely, at one cut."""

from oneshelf.ahead import stands_ahead
from oneshelf.basics import is_integer, is_list, is_pair
from oneshelf.cuts import later_of
from oneshelf.errors import InvalidFlags
from oneshelf.pictures import is_line, steps_between


def check_flags(picture, value):
    """Refuse what is no flags of the picture."""
    if not is_list(value) or len(value) != picture.houses:
        raise InvalidFlags(value)
    for row, size in zip(value, picture.sizes()):
        if not is_list(row) or len(row) != size + 1:
            raise InvalidFlags(value)
        if not all([isinstance(flag, bool) for flag in row]):
            raise InvalidFlags(value)


def stand_at(flags, cut):
    """Whether the flags stand at a cut."""
    return all([row[count] for row, count in zip(flags, cut)])


def flagged_states(flags):
    """The flagged states of each house."""
    return [[state for state, flag in enumerate(row) if flag] for row in flags]


def ends_ahead(picture, house, state, other, later):
    """Whether a state ends with an event that is ahead of the one with which another house's state begins."""
    if (house, state) not in picture or later == 0:
        return False
    return stands_ahead(picture, (house, state), (other, later - 1))


def next_crossing(picture, firsts):
    """A crossing between the first states left of the houses; None if there is none."""
    for house, state in enumerate(firsts):
        for other, later in enumerate(firsts):
            if house != other and ends_ahead(picture, house, state, other, later):
                return (house, state, other, later)
    return None


def crossed(picture, flags):
    """The crossings that are found one by one, and the states that they leave."""
    left = flagged_states(flags)
    found = []
    while all([len(states) > 0 for states in left]):
        crossing = next_crossing(picture, [states[0] for states in left])
        if crossing is None:
            return found, left
        found.append(crossing)
        left[crossing[0]] = left[crossing[0]][1:]
    return found, left


def perhaps(picture, flags):
    """The least cut at which the flags stand; None if they stand at none."""
    check_flags(picture, flags)
    left = crossed(picture, flags)[1]
    if not all([len(states) > 0 for states in left]):
        return None
    return tuple([states[0] for states in left])


def crossings(picture, flags):
    """Crossings that show that the flags stand at no cut; None if they stand at some."""
    check_flags(picture, flags)
    found, left = crossed(picture, flags)
    if all([len(states) > 0 for states in left]):
        return None
    return found


def is_crossing(picture, left, value):
    """Whether any value is a crossing where these states are left."""
    if not isinstance(value, tuple) or len(value) != 4:
        return False
    if not all([is_integer(part) for part in value]):
        return False
    house, state, other, later = value
    if house == other or not 0 <= house < len(left) or not 0 <= other < len(left):
        return False
    if left[house][:1] != [state] or left[other][:1] != [later]:
        return False
    return ends_ahead(picture, house, state, other, later)


def are_crossings(picture, flags, value):
    """Whether any value is crossings that show that the flags stand at no cut."""
    check_flags(picture, flags)
    if not is_list(value):
        return False
    left = flagged_states(flags)
    for crossing in value:
        if not is_crossing(picture, left, crossing):
            return False
        left[crossing[0]] = left[crossing[0]][1:]
    return not all([len(states) > 0 for states in left])


def whole_stretches(row):
    """The tuples (first, last) of the flagged states of a house that stand side by side."""
    found = []
    for state, flag in enumerate(row):
        if flag and state > 0 and row[state - 1]:
            found[-1] = (found[-1][0], state)
        elif flag:
            found.append((state, state))
    return found


def reaches(picture, house, stretch, other, another):
    """Whether the stretch of a house begins surely ahead of the end of that of another house."""
    if stretch[0] == 0 or (other, another[1]) not in picture:
        return True
    return stands_ahead(picture, (house, stretch[0] - 1), (other, another[1]))


def ended_too_soon(picture, chosen):
    """The first house whose stretch may have ended when that of another one begins; None if there is none."""
    for other, another in enumerate(chosen):
        for house, stretch in enumerate(chosen):
            if house != other and not reaches(picture, house, stretch, other, another):
                return other
    return None


def stretches(picture, flags):
    """The least stretches that are whole; None if there are none."""
    check_flags(picture, flags)
    left = [whole_stretches(row) for row in flags]
    while all([len(row) > 0 for row in left]):
        chosen = [row[0] for row in left]
        house = ended_too_soon(picture, chosen)
        if house is None:
            return tuple(chosen)
        # No later stretch of another house can begin sooner, so this one is in none of the stretches sought.
        left[house] = left[house][1:]
    return None


def surely(picture, flags):
    """Whether each line passes a cut at which the flags stand."""
    return stretches(picture, flags) is not None


def are_stretches(picture, flags, value):
    """Whether any value is stretches of the flags, whole or not."""
    check_flags(picture, flags)
    if not isinstance(value, tuple) or len(value) != picture.houses:
        return False
    for stretch, row in zip(value, flags):
        if not is_pair(stretch, len(row), len(row)) or stretch[0] > stretch[1]:
            return False
        if not all(row[stretch[0]:stretch[1] + 1]):
            return False
    return ended_too_soon(picture, value) is None


def begin_of(picture, spot):
    """The least cut at which a house has a state, told as (house, state)."""
    if spot[1] == 0:
        return (0,) * picture.houses
    return picture.clock_of((spot[0], spot[1] - 1))


def can_hand_over(picture, spot, later):
    """Whether a line can leave the flags down from one state that is not flagged to another one."""
    if spot[0] == later[0]:
        return later[1] == spot[1] + 1
    return begin_of(picture, later)[spot[0]] <= spot[1] and begin_of(picture, spot)[later[0]] <= later[1]


def path_to(came, spot):
    """The spots by which the search came to this one."""
    path = [spot]
    while came[path[-1]] is not None:
        path.append(came[path[-1]])
    return path[::-1]


def spots_past(picture, flags):
    """The fewest states not flagged that hand over to one another from the beginning to the end; None."""
    rest = [(house, state) for house, row in enumerate(flags) for state, flag in enumerate(row) if not flag]
    reached = [spot for spot in rest if spot[1] == 0]
    came = {spot: None for spot in reached}
    at = 0
    while at < len(reached):
        spot = reached[at]
        if spot not in picture:
            return path_to(came, spot)
        for later in rest:
            if later not in came and can_hand_over(picture, spot, later):
                came[later] = spot
                reached.append(later)
        at = at + 1
    return None


def line_past(picture, flags):
    """A line that passes no cut at which the flags stand; None if there is none."""
    check_flags(picture, flags)
    spots = spots_past(picture, flags)
    if spots is None:
        return None
    needs = picture.needs()
    line = []
    cut = (0,) * picture.houses
    # Only the fewest spots will do: then none of them is over before a former one begins.
    for spot in spots:
        goal = later_of(cut, begin_of(picture, spot))
        line.extend(steps_between(cut, goal, needs))
        cut = goal
    return line + steps_between(cut, picture.sizes(), needs)


def is_line_past(picture, flags, value):
    """Whether any value is a line that passes no cut at which the flags stand."""
    check_flags(picture, flags)
    if not is_line(picture, value):
        return False
    cut = [0] * picture.houses
    for house in value:
        if stand_at(flags, cut):
            return False
        cut[house] = cut[house] + 1
    return not stand_at(flags, cut)

"""Tables of values that melt, and pictures that are soaked with them."""

from oneshelf.basics import is_list, is_number_below
from oneshelf.errors import InvalidGifts, InvalidMelt, InvalidTable, InvalidValue, InvalidValues
from oneshelf.pictures import check_cut, events_along, steps_between

MOST_VALUES = 7
MOST_MELTED = 40


def is_row(value, size):
    """Whether any value is a row of a table of this size."""
    return is_list(value) and len(value) == size and all([is_number_below(part, size) for part in value])


class Table:
    """What comes of two values, for any two of them."""

    def __init__(self, rows):
        if not is_list(rows) or not 1 <= len(rows) <= MOST_VALUES:
            raise InvalidTable(None)
        for position, row in enumerate(rows):
            if not is_row(row, len(rows)):
                raise InvalidTable(position)
        self._rows = tuple([tuple(row) for row in rows])

    def rows(self):
        """For each value the list of what comes of it and each value."""
        return [list(row) for row in self._rows]

    def at(self, x, y):
        """What comes of x and y."""
        check_value(self, x)
        check_value(self, y)
        return self._rows[x][y]

    def __len__(self):
        return len(self._rows)

    def __eq__(self, other):
        return isinstance(other, Table) and self._rows == other._rows

    def __repr__(self):
        return f"Table({self.rows()!r})"


def check_value(table, value):
    """Refuse what is no value of the table."""
    if not is_number_below(value, len(table)):
        raise InvalidValue(value)


def check_values(table, values, fewest):
    """Refuse what is no list of at least so many values of the table."""
    if not is_list(values) or len(values) < fewest:
        raise InvalidValues(None)
    for position, value in enumerate(values):
        if not is_number_below(value, len(table)):
            raise InvalidValues(position)


def melted(table, value):
    """The list of the values of a melt; None if any value is none."""
    found = []
    waiting = [value]
    while len(waiting) > 0:
        part = waiting.pop()
        if isinstance(part, tuple) and len(part) == 2:
            waiting.extend(part)
        elif is_number_below(part, len(table)) and len(found) < MOST_MELTED:
            found.append(part)
        else:
            return None
    return found


def is_melt(table, value):
    """Whether any value is a melt."""
    return melted(table, value) is not None


def result_of(table, melt):
    """The result of a melt."""
    if not isinstance(melt, tuple):
        return melt
    return table.at(result_of(table, melt[0]), result_of(table, melt[1]))


def result(table, melt):
    """The result of a melt, if it is one."""
    if not is_melt(table, melt):
        raise InvalidMelt(melt)
    return result_of(table, melt)


def parting(table):
    """A tuple of two melts that part the table; None if it melts."""
    rows = table.rows()
    values = list(range(len(rows)))
    for x in values:
        if rows[x][x] != x:
            return ((x, x), x)
    for x in values:
        for y in values:
            if rows[x][y] != rows[y][x]:
                return ((x, y), (y, x))
    for x in values:
        for y in values:
            for z in values:
                if rows[rows[x][y]][z] != rows[x][rows[y][z]]:
                    return (((x, y), z), (x, (y, z)))
    return None


def melts(table):
    """Whether the table melts."""
    return parting(table) is None


def is_parting(table, value):
    """Whether any value is a tuple of two melts that part the table."""
    if not isinstance(value, tuple) or len(value) != 2:
        return False
    ones, others = melted(table, value[0]), melted(table, value[1])
    if ones is None or others is None or sorted(set(ones)) != sorted(set(others)):
        return False
    return result_of(table, value[0]) != result_of(table, value[1])


def is_deed(picture, value):
    """Whether any value is an event ("do", ..) of the picture."""
    return value in picture and picture[value][0] == "do"


def check_soaking(table, picture, begins, gifts, cut):
    """Refuse first values, gifts, and a cut that are none."""
    if not is_list(begins) or len(begins) != picture.houses:
        raise InvalidValues(None)
    check_values(table, begins, picture.houses)
    if not isinstance(gifts, dict):
        raise InvalidGifts(gifts)
    for event in gifts:
        if not is_deed(picture, event) or not is_number_below(gifts[event], len(table)):
            raise InvalidGifts(gifts)
    check_cut(picture, cut)


def events_within(picture, cut):
    """The events of a cut, in the sequence of a line."""
    return events_along(picture.houses, steps_between([0] * picture.houses, cut, picture.needs()))


def soaked(table, picture, begins, gifts, cut):
    """The list of the values of the houses at the cut."""
    check_soaking(table, picture, begins, gifts, cut)
    now = list(begins)
    then = {}
    for event in events_within(picture, cut):
        house = event[0]
        said = picture.sayer(event)
        if said is not None:
            now[house] = table.at(now[house], then[said])
        elif event in gifts:
            now[house] = table.at(now[house], gifts[event])
        then[event] = now[house]
    return now


def heard(table, picture, begins, gifts, cut):
    """The list with, for each house, the sorted list of what it has heard at the cut."""
    check_soaking(table, picture, begins, gifts, cut)
    now = [[first] for first in begins]
    then = {}
    for event in events_within(picture, cut):
        house = event[0]
        said = picture.sayer(event)
        if said is not None:
            now[house] = sorted(set(now[house] + then[said]))
        elif event in gifts:
            now[house] = sorted(set(now[house] + [gifts[event]]))
        then[event] = now[house]
    return now

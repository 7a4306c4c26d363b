"""What houses know at points of a book, alone and along a list of houses."""

from oneshelf.ahead import stands_ahead
from oneshelf.basics import is_list, is_number_below
from oneshelf.books import check_fact, check_house, check_number, check_point, fails_at
from oneshelf.errors import InvalidAlong, InvalidEvent

MOST_ALONG = 10


def check_along(book, value):
    """Refuse what is no list of houses of the book along which something is known."""
    if not is_list(value) or not 1 <= len(value) <= MOST_ALONG:
        raise InvalidAlong(None)
    for position, house in enumerate(value):
        if not is_number_below(house, book.houses):
            raise InvalidAlong(position)


def check_seen(book, point, value):
    """Refuse what is no event of the cut of a point."""
    if value not in book.pictures[point[0]] or value[1] >= point[1][value[0]]:
        raise InvalidEvent(value)


def knows_at(book, house, fact, point):
    """Whether a fact of the book holds at all points that are alike to the house."""
    return len(fails_at(book, fact, book.points_with(house, book.row_at(house, point)))) == 0


def knows(book, house, fact, point):
    """Whether a house knows a fact at a point."""
    check_house(book, house)
    check_fact(book, fact)
    check_point(book, point)
    return knows_at(book, house, fact, point)


def learnt(book, house, fact, number):
    """The least number of the house's events with which it knows the fact; None if it never does."""
    check_house(book, house)
    check_fact(book, fact)
    check_number(book, number)
    first = {}
    for cut in book.watched(number):
        first.setdefault(cut[house], (number, cut))
    for count in sorted(list(first)):
        if knows_at(book, house, fact, first[count]):
            return count
    return None


def rows_along(book, houses, point):
    """For each of the houses the dict from the rows of the least layers to their points."""
    found = []
    points = [point]
    for house in houses:
        rows = {}
        for other in points:
            row = book.row_at(house, other)
            if row not in rows:
                rows[row] = book.points_with(house, row)
        found.append(rows)
        points = [other for row in rows for other in rows[row]]
    return found


def fails_behind(book, fact, rows):
    """The points at which houses have the last of these rows and a fact of the book does not hold."""
    return fails_at(book, fact, [point for row in rows[-1] for point in rows[-1][row]])


def check_question(book, houses, fact, point):
    """Refuse what does not fit a question whether houses know along."""
    check_along(book, houses)
    check_fact(book, fact)
    check_point(book, point)


def knows_along(book, houses, fact, point):
    """Whether the list of houses knows the fact along at the point."""
    check_question(book, houses, fact, point)
    return len(fails_behind(book, fact, rows_along(book, houses, point))) == 0


def path_back(book, houses, rows, last):
    """The points by which the rows of these houses lead to a last point."""
    path = [last]
    for k in range(len(houses) - 1, 0, -1):
        row = book.row_at(houses[k], path[-1])
        nearer = [point for former in rows[k - 1] for point in rows[k - 1][former]
                  if book.row_at(houses[k], point) == row]
        path.append(nearer[0])
    return path[::-1]


def path_against(book, houses, fact, point):
    """A path against what the houses would know along; None if they know it."""
    check_question(book, houses, fact, point)
    rows = rows_along(book, houses, point)
    failing = fails_behind(book, fact, rows)
    if len(failing) == 0:
        return None
    return [point] + path_back(book, houses, rows, failing[0])


def layers(book, houses, fact, point):
    """The least layers, each sorted; None if there are none."""
    check_question(book, houses, fact, point)
    rows = rows_along(book, houses, point)
    if len(fails_behind(book, fact, rows)) > 0:
        return None
    return [sorted(list(layer)) for layer in rows]


def is_path_against(book, houses, fact, point, value):
    """Whether any value is a path against what the houses would know along."""
    check_question(book, houses, fact, point)
    if not is_list(value) or len(value) != len(houses) + 1:
        return False
    if not all([other in book for other in value]) or value[0] != point:
        return False
    for house, former, later in zip(houses, value[:-1], value[1:]):
        if book.row_at(house, former) != book.row_at(house, later):
            return False
    return len(fails_at(book, fact, value[-1:])) == 1


def layer_points(book, house, value):
    """The points at which a house has a row of any value; None unless this is a list of rows of it."""
    if not is_list(value) or not all([book.has_row(house, row) for row in value]):
        return None
    rows = {row: True for row in value}
    return [point for row in rows for point in book.points_with(house, row)]


def are_layers(book, houses, fact, point, value):
    """Whether any value is layers, whose rows may come in any sequence, and oftener."""
    check_question(book, houses, fact, point)
    if not is_list(value) or len(value) != len(houses):
        return False
    points = [point]
    for house, layer in zip(houses, value):
        reached = layer_points(book, house, layer)
        if reached is None:
            return False
        rows = {row: True for row in layer}
        if not all([book.row_at(house, other) in rows for other in points]):
            return False
        points = reached
    return len(fails_at(book, fact, points)) == 0


def is_behind(picture, event, later):
    """Whether the later event is the event, or the event is ahead of it."""
    return event == later or stands_ahead(picture, event, later)


def relay(book, houses, point, event):
    """A relay of the houses from the event; None if there is none."""
    check_along(book, houses)
    check_point(book, point)
    check_seen(book, point, event)
    picture = book.pictures[point[0]]
    found = [event]
    for house in reversed(list(houses)):
        # The first event behind the one so far is ahead of all others that would do.
        places = [k for k in range(point[1][house]) if is_behind(picture, found[-1], (house, k))]
        if len(places) == 0:
            return None
        found.append((house, places[0]))
    return found


def is_relay(book, houses, point, event, value):
    """Whether any value is a relay of the houses from the event."""
    check_along(book, houses)
    check_point(book, point)
    check_seen(book, point, event)
    picture = book.pictures[point[0]]
    if not is_list(value) or len(value) != len(houses) + 1:
        return False
    if not all([told in picture and told[1] < point[1][told[0]] for told in value]) or value[0] != event:
        return False
    for house, former, later in zip(houses[::-1], value[:-1], value[1:]):
        if later[0] != house or not is_behind(picture, former, later):
            return False
    return True

"""What is common to a group of houses at a point of a book."""

from oneshelf.basics import is_list, is_number_below
from oneshelf.books import check_fact, check_number, check_point, fails_at
from oneshelf.errors import InvalidGroup


def check_group(book, value):
    """Refuse what is no group of houses of the book."""
    if not is_list(value) or len(value) == 0:
        raise InvalidGroup(value)
    if not all([is_number_below(house, book.houses) for house in value]):
        raise InvalidGroup(value)
    unlike = {house: True for house in value}
    if len(unlike) < len(value):
        raise InvalidGroup(value)


def check_question(book, group, fact, point):
    """Refuse what does not fit a question whether a fact is common."""
    check_group(book, group)
    check_fact(book, fact)
    check_point(book, point)


def search(book, group, point):
    """The dict from all points that ways of the group lead to, the nearest first, to the points ahead of them."""
    came = {point: None}
    reached = [point]
    seats = {}
    at = 0
    while at < len(reached):
        for house in group:
            seat = (house, book.row_at(house, reached[at]))
            if seat not in seats:
                seats[seat] = True
                for other in book.points_with(house, seat[1]):
                    if other not in came:
                        came[other] = reached[at]
                        reached.append(other)
        at = at + 1
    return came


def is_common(book, group, fact, point):
    """Whether the fact is common to the group at the point."""
    check_question(book, group, fact, point)
    return len(fails_at(book, fact, list(search(book, group, point)))) == 0


def closed_seats(book, group, fact, point):
    """The sorted list of the fewest closed seats; None if the fact is not common."""
    if not is_common(book, group, fact, point):
        return None
    seats = {}
    for other in search(book, group, point):
        for house in group:
            seats[(house, book.row_at(house, other))] = True
    return sorted(list(seats))


def is_seat(book, group, value):
    """Whether any value is a tuple of a house of the group and a row that it has at a point."""
    if not isinstance(value, tuple) or len(value) != 2:
        return False
    return is_number_below(value[0], book.houses) and value[0] in group and book.has_row(value[0], value[1])


def are_closed_seats(book, group, fact, point, value):
    """Whether any value is a list of closed seats."""
    check_question(book, group, fact, point)
    if not is_list(value) or not all([is_seat(book, group, seat) for seat in value]):
        return False
    seats = {seat: True for seat in value}
    if len(seats) < len(value):
        return False
    points = {point: True}
    for house, row in value:
        for other in book.points_with(house, row):
            points[other] = True
    if len(fails_at(book, fact, list(points))) > 0:
        return False
    return all([(house, book.row_at(house, other)) in seats for other in points for house in group])


def way_out(book, group, fact, point):
    """A way out of the fewest steps; None if the fact is common."""
    check_question(book, group, fact, point)
    came = search(book, group, point)
    failing = fails_at(book, fact, list(came))
    if len(failing) == 0:
        return None
    path = [failing[0]]
    while came[path[-1]] is not None:
        path.append(came[path[-1]])
    return path[::-1]


def is_way_out(book, group, fact, point, value):
    """Whether any value is a way out, of however many steps."""
    check_question(book, group, fact, point)
    if not is_list(value) or len(value) == 0 or not all([other in book for other in value]):
        return False
    if value[0] != point:
        return False
    for former, later in zip(value[:-1], value[1:]):
        if not any([book.row_at(house, former) == book.row_at(house, later) for house in group]):
            return False
    return len(fails_at(book, fact, value[-1:])) == 1


def depth(book, group, fact, point):
    """The fewest steps of a way out; None if the fact is common."""
    path = way_out(book, group, fact, point)
    return None if path is None else len(path) - 1


def linked(book, group, number):
    """The sorted list of the numbers of the pictures that the group links to this one, its own among them."""
    check_group(book, group)
    check_number(book, number)
    starts = book.starts()
    found = [number]
    at = 0
    while at < len(found):
        for other in range(len(book)):
            if other not in found and any([starts[found[at]][house] == starts[other][house] for house in group]):
                found.append(other)
        at = at + 1
    return sorted(found)

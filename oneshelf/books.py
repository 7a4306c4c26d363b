"""Books of pictures with watched cuts, and the facts that hold at their points."""

from oneshelf.basics import is_count, is_integer, is_list, is_number_below, is_text
from oneshelf.cuts import cuts_up_to
from oneshelf.errors import InvalidFact, InvalidHouse, InvalidNumber, InvalidPictures
from oneshelf.errors import InvalidPoint, InvalidStarts, InvalidWatched, TooMany
from oneshelf.pictures import Picture

MOST_PICTURES = 6
MOST_WATCHED = 400
MOST_FACTS = 12
MOST_PARTS = 4


def check_pictures(pictures):
    """Refuse what is no list of pictures of as many houses."""
    if not is_list(pictures) or not 1 <= len(pictures) <= MOST_PICTURES:
        raise InvalidPictures(None)
    for position, picture in enumerate(pictures):
        if not isinstance(picture, Picture) or picture.houses != pictures[0].houses:
            raise InvalidPictures(position)


def told_starts(pictures, starts):
    """The starts of each picture; refuse what is no starts of them."""
    if starts is None:
        return tuple([("",) * picture.houses for picture in pictures])
    if not is_list(starts) or len(starts) != len(pictures):
        raise InvalidStarts(None)
    for position, row in enumerate(starts):
        if not is_list(row) or len(row) != pictures[0].houses:
            raise InvalidStarts(position)
        if not all([is_text(text) for text in row]):
            raise InvalidStarts(position)
    return tuple([tuple(row) for row in starts])


def are_watched(picture, value):
    """Whether any value is a list of unlike cuts of the picture with the empty and the whole one."""
    if not is_list(value) or not all([picture.has_cut(cut) for cut in value]):
        return False
    unlike = {cut: True for cut in value}
    return len(unlike) == len(value) and (0,) * picture.houses in unlike and picture.sizes() in unlike


def told_watched(pictures, watched):
    """The sorted watched cuts of each picture; refuse what is no watched cuts of them."""
    if watched is None:
        watched = [None] * len(pictures)
    if not is_list(watched) or len(watched) != len(pictures):
        raise InvalidWatched(None)
    for position, cuts in enumerate(watched):
        if cuts is not None and not are_watched(pictures[position], cuts):
            raise InvalidWatched(position)
    found = []
    for picture, cuts in zip(pictures, watched):
        found.append(cuts_up_to(picture, MOST_WATCHED) if cuts is None else sorted(cuts))
        if len(found[-1]) > MOST_WATCHED:
            raise TooMany("cuts", MOST_WATCHED)
    return tuple([tuple(cuts) for cuts in found])


def entry(picture, what):
    """What stands in the row of a house for an event of it."""
    if what[0] == "do":
        return ("done", what[1])
    if what[0] == "say":
        return ("said", what[2], what[3])
    sayer = picture.said(what[1])
    return ("heard", sayer[0], picture[sayer][3])


def rows_of(picture, house, start):
    """The rows of a house behind none of its events, behind one of them, and so on."""
    found = [(start,)]
    for what in picture.rows()[house]:
        found.append(found[-1] + (entry(picture, what),))
    return found


def all_rows(pictures, starts):
    """For each house, for each picture, its rows."""
    found = []
    for house in range(pictures[0].houses):
        found.append([rows_of(picture, house, texts[house]) for picture, texts in zip(pictures, starts)])
    return found


def has_row_form(value):
    """Whether any value is made of texts and INTEGERS as rows are."""
    if not isinstance(value, tuple) or len(value) == 0 or not isinstance(value[0], str):
        return False
    for told in value[1:]:
        if not isinstance(told, tuple) or not all([isinstance(part, str) or is_integer(part) for part in told]):
            return False
    return True


class Book:
    """Pictures of as many houses, with their starts and watched cuts."""

    def __init__(self, pictures, starts=None, watched=None):
        check_pictures(pictures)
        self._pictures = tuple(pictures)
        self._starts = told_starts(pictures, starts)
        self._watched = told_watched(pictures, watched)
        self._points = tuple([(number, cut) for number, cuts in enumerate(self._watched) for cut in cuts])
        self._known = {point: True for point in self._points}
        self._rows = all_rows(self._pictures, self._starts)
        self._seats = [{} for rows in self._rows]
        for point in self._points:
            for house, seats in enumerate(self._seats):
                seats.setdefault(self.row_at(house, point), []).append(point)

    @property
    def pictures(self):
        """The list of the pictures."""
        return list(self._pictures)

    @property
    def houses(self):
        """How many houses each picture has."""
        return self._pictures[0].houses

    def starts(self):
        """The starts, for each picture a list."""
        return [list(row) for row in self._starts]

    def watched(self, number):
        """The sorted list of the watched cuts of a picture."""
        check_number(self, number)
        return list(self._watched[number])

    def points(self):
        """The sorted list of the points."""
        return list(self._points)

    def row(self, house, point):
        """The row of a house at a point."""
        check_house(self, house)
        check_point(self, point)
        return self.row_at(house, point)

    def alike(self, house, point):
        """The sorted list of the points that are alike to a house."""
        check_house(self, house)
        check_point(self, point)
        return self.points_with(house, self.row_at(house, point))

    def row_at(self, house, point):
        """The row of a house of the book at a point of it."""
        return self._rows[house][point[0]][point[1][house]]

    def points_with(self, house, row):
        """The sorted list of the points at which a house has a row that it has at some."""
        return list(self._seats[house][row])

    def has_row(self, house, value):
        """Whether any value is a row that a house has at some point."""
        return has_row_form(value) and value in self._seats[house]

    def __len__(self):
        return len(self._pictures)

    def __contains__(self, x):
        if not isinstance(x, tuple) or len(x) != 2 or not is_count(x[0]):
            return False
        return isinstance(x[1], tuple) and all([is_count(count) for count in x[1]]) and x in self._known

    def __eq__(self, other):
        if not isinstance(other, Book) or self._pictures != other._pictures:
            return False
        return self._starts == other._starts and self._watched == other._watched

    def __repr__(self):
        watched = [list(cuts) for cuts in self._watched]
        return f"Book({list(self._pictures)!r}, {self.starts()!r}, {watched!r})"


def check_house(book, value):
    """Refuse what is no house of the book."""
    if not is_number_below(value, book.houses):
        raise InvalidHouse(value)


def check_number(book, value):
    """Refuse what is no number of a picture of the book."""
    if not is_number_below(value, len(book)):
        raise InvalidNumber(value)


def check_point(book, value):
    """Refuse what is no point of the book."""
    if value not in book:
        raise InvalidPoint(value)


def check_fact(book, value):
    """Refuse what is no fact of the book."""
    if not is_fact(book, value):
        raise InvalidFact(value)


def parts_of(fact):
    """The facts straight within a fact."""
    if fact[0] == "not":
        return [fact[1]]
    if fact[0] in ("all", "any"):
        return list(fact[1])
    return []


def has_fact_form(book, value):
    """Whether any value is a fact if those within it are facts."""
    if not isinstance(value, tuple) or len(value) < 2 or not isinstance(value[0], str):
        return False
    if value[0] == "done":
        if len(value) != 4 or not is_count(value[3]) or value[3] < 1:
            return False
        return is_number_below(value[1], book.houses) and is_text(value[2])
    if value[0] == "start":
        return len(value) == 3 and is_number_below(value[1], book.houses) and is_text(value[2])
    if len(value) != 2:
        return False
    if value[0] in ("all", "any"):
        return is_list(value[1]) and 1 <= len(value[1]) <= MOST_PARTS
    if value[0] == "at":
        return is_list(value[1]) and all([point in book for point in value[1]])
    return value[0] == "not"


def is_fact(book, value):
    """Whether any value is a fact of the book."""
    waiting = [value]
    many = 0
    while len(waiting) > 0:
        fact = waiting.pop()
        many = many + 1
        if many > MOST_FACTS or not has_fact_form(book, fact):
            return False
        waiting.extend(parts_of(fact))
    return True


def done_so_far(row, text):
    """How often a text is done by the first events of a row, for each number of them."""
    found = [0]
    for what in row:
        found.append(found[-1] + (1 if what == ("do", text) else 0))
    return found


def where_done(book, fact, points):
    """The dict from these points to whether a house has done a text so often there."""
    house = fact[1]
    counts = [done_so_far(picture.rows()[house], fact[2]) for picture in book.pictures]
    return {(number, cut): counts[number][cut[house]] >= fact[3] for number, cut in points}


def where(book, fact, points):
    """The dict from these points to whether a fact of the book holds there."""
    if fact[0] == "done":
        return where_done(book, fact, points)
    if fact[0] == "start":
        starts = book.starts()
        return {point: starts[point[0]][fact[1]] == fact[2] for point in points}
    if fact[0] == "at":
        told = {point: True for point in fact[1]}
        return {point: point in told for point in points}
    parts = [where(book, part, points) for part in parts_of(fact)]
    if fact[0] == "all":
        return {point: all([part[point] for part in parts]) for point in points}
    if fact[0] == "any":
        return {point: any([part[point] for part in parts]) for point in points}
    return {point: not parts[0][point] for point in points}


def fails_at(book, fact, points):
    """Those of these points at which a fact of the book does not hold."""
    truth = where(book, fact, points)
    return [point for point in points if not truth[point]]


def holds(book, fact, point):
    """Whether a fact holds at a point."""
    check_fact(book, fact)
    check_point(book, point)
    return len(fails_at(book, fact, [point])) == 0


def with_plain_letters(picture):
    """The picture with the texts m0, m1, and so on, of its letters, sorted."""
    texts = {letter: f"m{number}" for number, letter in enumerate(picture.letters())}
    rows = []
    for row in picture.rows():
        rows.append([what[:3] + (texts[what[1]],) if what[0] == "say" else what for what in row])
    return Picture(rows)


def without(picture, event):
    """The picture without an event and all that it is ahead of."""
    house, place = event
    kept = [0] * picture.houses
    for later in picture.events():
        if picture.clock_of(later)[house] <= place:
            kept[later[0]] = later[1] + 1
    return picture.beginning(tuple(kept))


def told_in_full(picture):
    """The book of the picture and of those without each of its deeds."""
    plain = with_plain_letters(picture)
    deeds = [event for event in plain.events() if plain[event][0] == "do"]
    if 1 + len(deeds) > MOST_PICTURES:
        raise TooMany("pictures", MOST_PICTURES)
    return Book([plain] + [without(plain, event) for event in deeds])

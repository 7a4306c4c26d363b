"""Books whose points, facts and knowledge are worked out by trying all."""

from oneshelf.books import Book
from oneshelf.pictures import Picture
from support import Dice, is_int, is_listy, said_by, some_rows, try_cuts

SMALL = "abcdefghijklmnopqrstuvwxyz0123456789"


def is_short(value):
    return type(value) is str and len(value) <= 8 and all(sign in SMALL for sign in value)


def without_event(rows, event):
    """The rows without an event and what it is ahead of."""
    gone, more = set(), {event}
    while more != gone:
        gone = set(more)
        for house, row in enumerate(rows):
            for place, what in enumerate(row):
                heard = what[0] == "hear" and said_by(rows, what[1]) in gone
                if heard or (house, place - 1) in gone:
                    more.add((house, place))
    return [[what for place, what in enumerate(row) if (house, place) not in gone] for house, row in enumerate(rows)]


class Tried:
    """What a book is to tell, from the rows of its pictures, its starts and its watched cuts."""

    def __init__(self, all_rows, starts=None, watched=None):
        self.all_rows = all_rows
        self.houses = len(all_rows[0])
        self.starts = starts or [[""] * self.houses for _ in all_rows]
        told = watched or [None] * len(all_rows)
        self.watched = [sorted(cuts) if cuts is not None else try_cuts(rows) for cuts, rows in zip(told, all_rows)]
        self.points = [(number, cut) for number, cuts in enumerate(self.watched) for cut in cuts]
        self.book = Book([Picture(rows) for rows in all_rows], starts, watched)
        self.found = {(house, point): self.row(house, point) for house in range(self.houses) for point in self.points}
        self.near = {(house, point): [other for other in self.points if self.found[house, other] ==
                                      self.found[house, point]] for house, point in self.found}

    def row(self, house, point):
        rows = self.all_rows[point[0]]
        found = [self.starts[point[0]][house]]
        for what in rows[house][:point[1][house]]:
            if what[0] == "do":
                found.append(("done", what[1]))
            elif what[0] == "say":
                found.append(("said", what[2], what[3]))
            else:
                sayer = said_by(rows, what[1])
                found.append(("heard", sayer[0], rows[sayer[0]][sayer[1]][3]))
        return tuple(found)

    def is_point(self, value):
        if type(value) is not tuple or len(value) != 2 or not is_int(value[0]) or type(value[1]) is not tuple:
            return False
        return all(is_int(part) for part in value[1]) and value in self.points

    def is_house(self, value):
        return is_int(value) and 0 <= value < self.houses

    def fact_size(self, value):
        """How many facts are in a fact; a great number for what is none."""
        if type(value) is not tuple or not value or type(value[0]) is not str:
            return 99
        word, rest = value[0], value[1:]
        if word == "done" and len(rest) == 3:
            good = self.is_house(rest[0]) and is_short(rest[1]) and is_int(rest[2]) and rest[2] >= 1
            return 1 if good else 99
        if word == "start" and len(rest) == 2:
            return 1 if self.is_house(rest[0]) and is_short(rest[1]) else 99
        if word in ("all", "any") and len(rest) == 1:
            if not is_listy(rest[0]) or not 1 <= len(rest[0]) <= 4:
                return 99
            return 1 + sum(self.fact_size(part) for part in rest[0])
        if word == "not" and len(rest) == 1:
            return 1 + self.fact_size(rest[0])
        if word == "at" and len(rest) == 1:
            return 1 if is_listy(rest[0]) and all(self.is_point(point) for point in rest[0]) else 99
        return 99

    def is_fact(self, value):
        return self.fact_size(value) <= 12

    def holds(self, fact, point):
        word = fact[0]
        if word == "done":
            done = self.all_rows[point[0]][fact[1]][:point[1][fact[1]]]
            return done.count(("do", fact[2])) >= fact[3]
        if word == "start":
            return self.starts[point[0]][fact[1]] == fact[2]
        if word == "all":
            return all(self.holds(part, point) for part in fact[1])
        if word == "any":
            return any(self.holds(part, point) for part in fact[1])
        if word == "not":
            return not self.holds(fact[1], point)
        return point in fact[1]

    def where(self, fact):
        return {point for point in self.points if self.holds(fact, point)}

    def where_known(self, house, true):
        """The points at which a house knows what is so at these points."""
        return {point for point in self.points if true.issuperset(self.near[house, point])}

    def where_along(self, houses, true):
        for house in reversed(houses):
            true = self.where_known(house, true)
        return true

    def depth(self, group, fact, point):
        """How often in turn all of the group are asked until the point is lost; None if it never is."""
        true, rounds = self.where(fact), 0
        while point in true:
            fewer = true.intersection(*[self.where_known(house, true) for house in group])
            if fewer == true:
                return None
            true, rounds = fewer, rounds + 1
        return rounds

    def some_fact(self, dice, left=6):
        """A fact with at most so many facts in it."""
        word = dice.one_of(["done", "done", "start", "at", "not", "all", "any", "done"])
        if left < 3 and word in ("not", "all", "any"):
            word = "done"
        if word == "done":
            return ("done", dice.below(self.houses), dice.one_of("ab"), 1 + dice.below(2))
        if word == "start":
            return ("start", dice.below(self.houses), dice.one_of(["", "a"]))
        if word == "at":
            return ("at", [point for point in self.points if dice.below(4) > 0])
        if word == "not":
            return ("not", self.some_fact(dice, left - 1))
        return (word, [self.some_fact(dice, (left - 1) // 2) for _ in range(1 + dice.below(2))])


def some_tried(seed):
    """A small book: pictures that are much like one another, some with starts, some with few watched cuts."""
    dice = Dice(seed)
    houses = 1 + seed % 4
    rows = some_rows(seed * 3 + 1, houses, 3 + seed % 3)
    pictures = [rows]
    while len(pictures) < 1 + seed % 5:
        events = [(house, place) for house, row in enumerate(rows) for place in range(len(row))]
        choice = dice.below(3)
        if choice == 0:
            pictures.append(without_event(rows, dice.one_of(events)))
        elif choice == 1:
            house, place = dice.one_of(events)
            other = [list(row) for row in rows]
            if other[house][place][0] == "do":
                other[house][place] = ("do", dice.one_of("ab"))
            pictures.append(other)
        else:
            pictures.append(some_rows(seed * 5 + len(pictures), houses, 4))
    starts = [[dice.one_of(["", "a"]) for _ in range(houses)] for _ in pictures] if seed % 2 else None
    watched = None
    if seed % 3 == 1:
        watched = []
        for told in pictures:
            cuts = try_cuts(told)
            kept = [cut for cut in cuts[1:-1] if dice.below(3) > 0]
            watched.append(None if dice.below(3) == 0 else cuts[-1:] + kept[::-1] + cuts[:max(0, len(cuts) - 1)][:1])
    return Tried(pictures, starts, watched)


def small_books(many=30):
    return [some_tried(seed) for seed in range(many)]

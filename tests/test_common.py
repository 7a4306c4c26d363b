"""[25], [26]: what is common, closed seats, ways out, depth, and linked pictures."""

import itertools
import unittest

from oneshelf.books import Book
from oneshelf.common import are_closed_seats, closed_seats, depth, is_common, is_way_out, linked, way_out
from oneshelf.errors import InvalidFact, InvalidGroup, InvalidNumber, InvalidPoint
from oneshelf.knowing import knows_along
from oneshelf.pictures import Picture
from support import Case, Dice, is_int, is_listy, junk, try_cuts, variants
from tried import Tried, small_books

WROTE = [[("do", "w"), ("say", 0, 1, "x")], [("hear", 0)]]
IDLE = [[("say", 0, 1, "y")], [("hear", 0)]]
FACT = ("done", 0, "w", 1)
LAST = (0, (2, 1))
ASKED = (is_common, closed_seats, way_out, depth)
JUDGES = (are_closed_seats, is_way_out)


def pair():
    return Book([Picture(WROTE), Picture(IDLE)])


def judge_seats(tried, group, fact, point, value):
    if not is_listy(value):
        return False
    for seat in value:
        if type(seat) is not tuple or len(seat) != 2 or not is_int(seat[0]) or seat[0] not in group:
            return False
        rows = [repr(tried.found[seat[0], other]) for other in tried.points]
        if type(seat[1]) is not tuple or repr(seat[1]) not in rows:
            return False
    if len(set(value)) < len(value):
        return False
    if not all((house, tried.found[house, point]) in value for house in group):
        return False
    for house, row in value:
        for other in tried.points:
            if tried.found[house, other] == row:
                if not tried.holds(fact, other):
                    return False
                if not all((one, tried.found[one, other]) in value for one in group):
                    return False
    return True


def least_seats(tried, group, point):
    """The rows of the group at the point, and all that these bring along."""
    seats, size = {(house, tried.found[house, point]) for house in group}, 0
    while size < len(seats):
        size = len(seats)
        for other in tried.points:
            if any((house, tried.found[house, other]) in seats for house in group):
                seats |= {(house, tried.found[house, other]) for house in group}
    return sorted(seats)


def judge_way_out(tried, group, fact, point, value):
    if not is_listy(value) or not value or not all(tried.is_point(other) for other in value):
        return False
    for one, other in zip(value, value[1:]):
        if not any(other in tried.near[house, one] for house in group):
            return False
    return value[0] == point and not tried.holds(fact, value[-1])


def groups_of(houses):
    return [list(group) for size in range(1, houses + 1) for group in itertools.permutations(range(houses), size)]


class TestExamples(Case):
    def test_the_document(self):
        book = pair()
        self.assertEqual(self.ask(depth, book=book, group=[0, 1], fact=FACT, point=LAST), 2)
        rounds = Book([Picture(WROTE), Picture(IDLE)], watched=[[(0, 0), (2, 1)], [(0, 0), (1, 1)]])
        self.assertIsNone(self.ask(depth, book=rounds, group=[0, 1], fact=FACT, point=LAST))
        self.assertEqual(self.ask(closed_seats, book=rounds, group=[1], fact=FACT, point=LAST),
                         [(1, ("", ("heard", 0, "x")))])


class TestCommon(Case):
    def look(self, tried, group, fact, point):
        asked = {"book": tried.book, "group": group, "fact": fact, "point": point}
        steps = tried.depth(group, fact, point)
        told = self.yes_or_no(is_common, **asked)
        self.assertIs(told, steps is None)
        self.assertEqual(self.ask(depth, **asked), steps)
        seats, way = self.ask(closed_seats, **asked), self.ask(way_out, **asked)
        self.assertIs(seats is None, not told)
        self.assertIs(way is None, told)
        self.assertIs(are_closed_seats(*asked.values(), least_seats(tried, group, point)), told)
        if told:
            self.assertEqual(seats, least_seats(tried, group, point))
            self.assertIs(judge_seats(tried, group, fact, point, seats), True)
            self.assertIs(self.yes_or_no(are_closed_seats, **asked, value=seats), True)
        else:
            self.assertEqual(len(way), steps + 1)
            self.assertIs(type(way), list)
            self.assertIs(judge_way_out(tried, group, fact, point, way), True)
            self.assertIs(self.yes_or_no(is_way_out, **asked, value=way), True)
        return steps

    def test_by_trying_all(self):
        seen = set()
        for number, tried in enumerate(small_books()):
            dice = Dice(number + 1)
            groups = groups_of(tried.houses)
            for _ in range(6):
                fact = ("not", ("at", [dice.one_of(tried.points)])) if dice.below(2) else tried.some_fact(dice)
                for point in tried.points[::3]:
                    seen.add(self.look(tried, dice.one_of(groups), fact, point))
        self.assertLessEqual({None, 0, 1, 2, 3}, seen)

    def test_group_of_one(self):
        for tried in small_books(10):
            for fact in (FACT, ("not", ("at", tried.points[:2])), ("at", tried.points)):
                for house in range(tried.houses):
                    for point in tried.points[::3]:
                        self.look(tried, [house], fact, point)
                        self.look(tried, (house,), fact, point)

    def test_depth_is_the_least_list_that_does_not_know(self):
        for number, tried in enumerate(small_books(14)):
            fact = tried.some_fact(Dice(number))
            for point in tried.points[::5]:
                group = list(range(tried.houses))[:3]
                steps = depth(tried.book, group, fact, point)
                if steps == 0:
                    self.assertIs(tried.holds(fact, point), False)
                    continue
                longest = 4 if steps is None else min(steps, 5)
                for size in range(1, longest + 1):
                    all_know = all(knows_along(tried.book, houses, fact, point)
                                   for houses in itertools.product(group, repeat=size))
                    self.assertIs(all_know, steps is None or size < steps)

    def test_all_cuts_watched(self):
        asked = 0
        for number, tried in enumerate(small_books(40)):
            if any(list(cuts) != try_cuts(rows) for cuts, rows in zip(tried.watched, tried.all_rows)):
                continue
            dice = Dice(number)
            for group in [group for group in groups_of(tried.houses) if len(group) > 1][:8]:
                fact = ("any", [("start", group[0], "a"), tried.some_fact(dice, 3)])
                for point in tried.points[::7]:
                    near = linked(tried.book, group, point[0])
                    right = all(tried.holds(fact, other) for other in tried.points if other[0] in near)
                    self.assertIs(is_common(tried.book, group, fact, point), right)
                    asked += right
        self.assertGreater(asked, 5)

    def test_at_the_limits(self):
        rows = [[("do", "a")] * 19, [("do", "b")] * 19]
        book = Book([Picture(rows)] * 6, [[text, "c"] for text in "aabbab"])
        last = (5, (19, 19))
        self.assertEqual(depth(book, [0, 1], ("not", ("at", [last])), (0, (0, 0))), 2)
        self.assertEqual(depth(book, [0], ("not", ("at", [last])), (2, (19, 0))), 1)
        self.assertIsNone(depth(book, [0], ("not", ("at", [last])), (0, (19, 0))))
        seats = closed_seats(book, [1, 0], ("at", book.points()), (0, (0, 0)))
        self.assertEqual(len(seats), 60)
        self.assertIs(are_closed_seats(book, [1, 0], ("at", book.points()), (0, (0, 0)), seats), True)


class TestJudges(Case):
    def test_seats(self):
        right = 0
        for number, tried in enumerate(small_books(20)):
            dice = Dice(number + 4)
            group = dice.one_of(groups_of(tried.houses))
            fact = dice.one_of([("at", tried.points), tried.some_fact(dice)])
            for point in tried.points[::6]:
                rest = (group, fact, point)
                seats = least_seats(tried, group, point)
                every = sorted({(house, tried.found[house, other]) for house in range(tried.houses)
                                for other in tried.points})
                more = [seat for seat in every if seat[0] in group]
                tries = variants(seats)[:300] + [every, more, more[::-1], [list(seat) for seat in seats], seats + more]
                tries += [least_seats(tried, group, other) for other in tried.points[::3]]
                tries += [sorted(set(seats + least_seats(tried, group, other))) for other in tried.points[::3]]
                for value in tries:
                    told = are_closed_seats(tried.book, *rest, value)
                    self.assertIs(told, judge_seats(tried, *rest, value), value)
                    right += told
        self.assertGreater(right, 50)

    def test_ways_out(self):
        right = 0
        for number, tried in enumerate(small_books(20)):
            dice = Dice(number + 6)
            group, fact = dice.one_of(groups_of(tried.houses)), tried.some_fact(dice)
            for point in tried.points[::5]:
                rest = (group, fact, point)
                way = way_out(tried.book, *rest) or [point]
                tries = variants(way) + [way[:1] * 3 + way, [], ()]
                tries += [way[:k] + [other] + way[k:] for k in range(len(way) + 1) for other in tried.points]
                for value in tries:
                    told = is_way_out(tried.book, *rest, value)
                    self.assertIs(told, judge_way_out(tried, *rest, value), value)
                    right += told
        self.assertGreater(right, 50)

    def test_true_is_no_house(self):
        book, fact, point = Book([Picture(IDLE)]), ("not", ("at", [])), (0, (1, 1))
        seats = closed_seats(book, [1], fact, point)
        self.assertIs(are_closed_seats(book, [1], fact, point, seats), True)
        self.assertIs(are_closed_seats(book, [1], fact, point, [(True, row) for _, row in seats]), False)
        heard = [(1, ("", ("heard", False, "y")))]
        self.assertEqual(seats, [(1, ("", ("heard", 0, "y")))])
        self.assertIs(are_closed_seats(book, [1], fact, point, heard), False)

    def test_any_seat(self):
        tried = Tried([WROTE, IDLE])
        fact = ("not", ("at", []))
        seats = closed_seats(tried.book, [0, 1], fact, LAST)
        for value in junk() + [([],), ({},), ("", ([],)), ("", ({}, 0)), ("", []), ("", None), ("", ("done",))]:
            for seat in (value, (0, value), (1, value), (value, ("",))):
                self.assertIs(are_closed_seats(tried.book, [0, 1], fact, LAST, seats + [seat]),
                              judge_seats(tried, [0, 1], fact, LAST, seats + [seat]), seat)

    def test_any_value(self):
        tried = Tried([WROTE, IDLE])
        for group in ([0], [1, 0]):
            for value in junk():
                asked = {"book": tried.book, "group": group, "fact": FACT, "point": LAST, "value": value}
                self.assertIs(self.yes_or_no(are_closed_seats, **asked), judge_seats(tried, group, FACT, LAST, value))
                self.assertIs(self.yes_or_no(is_way_out, **asked), judge_way_out(tried, group, FACT, LAST, value))


class TestErrors(Case):
    def test_groups(self):
        book = pair()
        for value in junk() + [[0, 0], [1, 0, 1], [0, 2], [0, True], [False], [0, -1], "01", {0: 1}, {0, 1}]:
            good = is_listy(value) and value and all(is_int(house) and house in (0, 1) for house in value)
            if good and len(set(value)) == len(value):
                continue
            told = {"value": value}
            for function in ASKED:
                self.refuse(InvalidGroup, told, function, book=book, group=value, fact=None, point=None)
            for function in JUDGES:
                self.refuse(InvalidGroup, told, function, book=book, group=value, fact=None, point=None, value=None)
            self.refuse(InvalidGroup, told, linked, book=book, group=value, number=None)

    def test_the_others(self):
        book, tried = pair(), Tried([WROTE, IDLE])
        for value in junk():
            for function in ASKED + JUDGES:
                more = {"value": None} if function in JUDGES else {}
                if not tried.is_fact(value):
                    self.refuse(InvalidFact, {"value": value}, function, book=book, group=[1], fact=value, point=None,
                                **more)
                if not tried.is_point(value):
                    self.refuse(InvalidPoint, {"value": value}, function, book=book, group=[1], fact=FACT, point=value,
                                **more)
            if not (is_int(value) and value in (0, 1)):
                self.refuse(InvalidNumber, {"value": value}, linked, book=book, group=[0, 1], number=value)


class TestLinked(Case):
    def test_by_trying_all(self):
        seen = set()
        for seed in range(60):
            dice = Dice(seed)
            houses, many = 1 + seed % 3, 1 + seed % 6
            starts = [[dice.one_of(["", "a", "b", "c"]) for _ in range(houses)] for _ in range(many)]
            book = Book([Picture([[]] * houses)] * many, starts)
            for group in groups_of(houses):
                for number in range(many):
                    near = {number}
                    for _ in range(many):
                        near |= {other for other in range(many) for one in near for house in group
                                 if starts[one][house] == starts[other][house]}
                    self.assertEqual(self.ask(linked, book=book, group=group, number=number), sorted(near))
                    seen.add(len(near))
        self.assertEqual(seen, {1, 2, 3, 4, 5, 6})

    def test_by_a_third_one(self):
        book = Book([Picture([[], []])] * 4, [["a", "b"], ["a", "c"], ["d", "c"], ["e", "f"]])
        self.assertEqual(linked(book, [0, 1], 2), [0, 1, 2])
        self.assertEqual(linked(book, [0], 2), [2])
        self.assertEqual(linked(book, [1], 2), [1, 2])
        self.assertEqual(linked(book, (1, 0), 3), [3])


if __name__ == "__main__":
    unittest.main()

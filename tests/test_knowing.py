"""[4], [23], [24], [27]: what a house knows, knowing along, paths and layers, relays."""

import itertools
import unittest

from oneshelf.books import Book
from oneshelf.cuts import least_cut
from oneshelf.errors import InvalidAlong, InvalidEvent, InvalidFact, InvalidHouse, InvalidNumber, InvalidPoint
from oneshelf.knowing import (are_layers, is_path_against, is_relay, knows, knows_along, layers, learnt, path_against,
                              relay)
from oneshelf.pictures import Picture
from support import (Case, Dice, ahead_pairs, full_picture, grid, is_event_of, is_int, is_listy, junk, some_rows,
                     variants)
from tried import Tried, small_books

WROTE = [[("do", "w"), ("say", 0, 1, "x")], [("hear", 0)]]
IDLE = [[("say", 0, 1, "y")], [("hear", 0)]]
FACT = ("done", 0, "w", 1)
LAST = (0, (2, 1))
ALONG = (knows_along, path_against, layers)
JUDGES = (is_path_against, are_layers)


def pair():
    return Book([Picture(WROTE), Picture(IDLE)])


def judge_path(tried, houses, fact, point, value):
    if not is_listy(value) or len(value) != len(houses) + 1 or not all(tried.is_point(told) for told in value):
        return False
    for house, one, other in zip(houses, value, value[1:]):
        if other not in tried.near[house, one]:
            return False
    return value[0] == point and not tried.holds(fact, value[-1])


def is_row_of(tried, house, value):
    rows = [tried.found[house, point] for point in tried.points]
    return type(value) is tuple and repr(value) in [repr(row) for row in rows]


def judge_layers(tried, houses, fact, point, value):
    if not is_listy(value) or len(value) != len(houses):
        return False
    for house, layer in zip(houses, value):
        if not is_listy(layer) or not all(is_row_of(tried, house, row) for row in layer):
            return False
    if tried.found[houses[0], point] not in value[0]:
        return False
    for k in range(1, len(houses)):
        for other in tried.points:
            if tried.found[houses[k - 1], other] in value[k - 1] and tried.found[houses[k], other] not in value[k]:
                return False
    return all(tried.holds(fact, other) for other in tried.points if tried.found[houses[-1], other] in value[-1])


def least_layers(tried, houses, point):
    found, points = [], [point]
    for house in houses:
        rows = sorted({tried.found[house, other] for other in points})
        found.append(rows)
        points = [other for other in tried.points if tried.found[house, other] in rows]
    return found


def some_houses(tried, dice):
    return [dice.below(tried.houses) for _ in range(1 + dice.below(4))]


def judge_relay(rows, houses, point, event, value):
    pairs = ahead_pairs(rows)
    if not is_listy(value) or len(value) != len(houses) + 1:
        return False
    if not all(is_event_of(rows, told) and told[1] < point[1][told[0]] for told in value) or value[0] != event:
        return False
    if [told[0] for told in value[1:]] != list(houses)[::-1]:
        return False
    return all(one == other or (one, other) in pairs for one, other in zip(value, value[1:]))


class TestExamples(Case):
    def test_the_document(self):
        book = pair()
        self.assertIs(self.yes_or_no(knows, book=book, house=1, fact=FACT, point=LAST), True)
        self.assertEqual(self.ask(learnt, book=book, house=1, fact=FACT, number=0), 1)
        self.assertIs(self.yes_or_no(knows_along, book=book, houses=[1, 0], fact=FACT, point=LAST), True)
        self.assertIs(self.yes_or_no(knows_along, book=book, houses=[0, 1], fact=FACT, point=LAST), False)
        self.assertEqual(self.ask(relay, book=book, houses=[1], point=LAST, event=(0, 0)), [(0, 0), (1, 0)])


class TestKnows(Case):
    def test_by_trying_all(self):
        seen = set()
        for number, tried in enumerate(small_books()):
            for seed in range(8):
                fact = tried.some_fact(Dice(number * 100 + seed))
                true = tried.where(fact)
                for house in range(tried.houses):
                    known = tried.where_known(house, true)
                    for point in tried.points[::2]:
                        told = self.yes_or_no(knows, book=tried.book, house=house, fact=fact, point=point)
                        self.assertIs(told, point in known)
                        seen.add((point in true, told))
                    for picture in range(len(tried.all_rows)):
                        counts = [cut[house] for other, cut in known if other == picture]
                        told = self.ask(learnt, book=tried.book, house=house, fact=fact, number=picture)
                        self.assertEqual(told, min(counts) if counts else None)
        self.assertEqual(seen, {(True, True), (True, False), (False, False)})

    def test_errors(self):
        book, tried = pair(), Tried([WROTE, IDLE])
        for value in junk():
            if not tried.is_house(value):
                self.refuse(InvalidHouse, {"value": value}, knows, book=book, house=value, fact=None, point=None)
                self.refuse(InvalidHouse, {"value": value}, learnt, book=book, house=value, fact=None, number=None)
            if not tried.is_fact(value):
                self.refuse(InvalidFact, {"value": value}, knows, book=book, house=0, fact=value, point=None)
                self.refuse(InvalidFact, {"value": value}, learnt, book=book, house=0, fact=value, number=None)
            if not tried.is_point(value):
                self.refuse(InvalidPoint, {"value": value}, knows, book=book, house=0, fact=FACT, point=value)
            if not (is_int(value) and value in (0, 1)):
                self.refuse(InvalidNumber, {"value": value}, learnt, book=book, house=0, fact=FACT, number=value)

    def test_when_it_is_learnt(self):
        book = Book([Picture(WROTE), Picture(IDLE)], None, [[(0, 0), (2, 1)], None])
        self.assertEqual(learnt(book, 0, FACT, 0), 2)
        self.assertEqual(learnt(book, 1, FACT, 0), 1)
        self.assertIsNone(learnt(book, 1, FACT, 1))
        self.assertEqual(learnt(book, 1, ("at", book.points()), 1), 0)
        self.assertEqual(learnt(book, 0, ("not", FACT), 1), 0)
        turns = Book([grid(2, 2)], None, [[(0, 0), (1, 2), (2, 1), (2, 2)]])
        self.assertEqual(learnt(turns, 1, ("not", ("at", [(0, (0, 0))])), 0), 1)


class TestAlong(Case):
    def test_by_trying_all(self):
        seen = set()
        for number, tried in enumerate(small_books()):
            dice = Dice(number + 3)
            for _ in range(8):
                fact, houses = tried.some_fact(dice), some_houses(tried, dice)
                known = tried.where_along(houses, tried.where(fact))
                for point in tried.points[::3]:
                    asked = {"book": tried.book, "houses": houses, "fact": fact, "point": point}
                    told = self.yes_or_no(knows_along, **asked)
                    self.assertIs(told, point in known)
                    self.look_at_papers(tried, told, **asked)
                    seen.add((len(houses), told))
        self.assertEqual(len(seen), 8)

    def look_at_papers(self, tried, told, **asked):
        rest = (asked["houses"], asked["fact"], asked["point"])
        path, found = self.ask(path_against, **asked), self.ask(layers, **asked)
        self.assertIs(path is None, told)
        self.assertIs(found is None, not told)
        if told:
            self.assertEqual(found, least_layers(tried, asked["houses"], asked["point"]))
            self.assertIs(judge_layers(tried, *rest, found), True)
            self.assertIs(self.yes_or_no(are_layers, **asked, value=found), True)
            self.assertIs(is_path_against(*asked.values(), found), False)
        else:
            self.assertIs(judge_path(tried, *rest, path), True)
            self.assertIs(self.yes_or_no(is_path_against, **asked, value=path), True)
            self.assertIs(are_layers(*asked.values(), path), False)

    def test_what_is_a_path(self):
        for number, tried in enumerate(small_books(20)):
            dice = Dice(number + 9)
            fact, houses = tried.some_fact(dice), some_houses(tried, dice)[:3]
            for point in tried.points[::4]:
                rest = (houses, fact, point)
                path = path_against(tried.book, *rest) or [point] * (len(houses) + 1)
                tries = variants(path) + [path[:k] + [other] + path[k + 1:] for k in range(len(path))
                                          for other in tried.points]
                for value in tries:
                    self.assertIs(is_path_against(tried.book, *rest, value), judge_path(tried, *rest, value), value)

    def test_what_are_layers(self):
        right = 0
        for number, tried in enumerate(small_books(20)):
            dice = Dice(number + 5)
            fact, houses = tried.some_fact(dice), some_houses(tried, dice)[:3]
            for point in tried.points[::5]:
                rest = (houses, fact, point)
                least = least_layers(tried, houses, point)
                tries = variants(least) + [[rows[::-1] + rows for rows in least], [tuple(rows) for rows in least],
                                           tuple(least)]
                for k in range(len(least)):
                    for other in tried.points[::2]:
                        tries.append(least[:k] + [least[k] + [tried.found[houses[k], other]]] + least[k + 1:])
                for value in tries:
                    told = are_layers(tried.book, *rest, value)
                    self.assertIs(told, judge_layers(tried, *rest, value), value)
                    right += told
        self.assertGreater(right, 100)

    def test_true_is_no_house_in_a_row(self):
        rows = [[("say", 0, 1, "x")], [("hear", 0)]]
        book, fact, point = Book([Picture(rows)]), ("not", ("at", [])), (0, (1, 1))
        self.assertIs(are_layers(book, [0], fact, point, [[("", ("said", 1, "x"))]]), True)
        self.assertIs(are_layers(book, [0], fact, point, [[("", ("said", True, "x"))]]), False)
        self.assertIs(are_layers(book, [1], fact, point, [[("", ("heard", 0, "x"))]]), True)
        self.assertIs(are_layers(book, [1], fact, point, [[("", ("heard", False, "x"))]]), False)
        self.assertIs(are_layers(book, [1], fact, point, [[("", ["heard", 0, "x"])]]), False)
        self.assertIs(are_layers(book, [1], fact, point, [[["", ("heard", 0, "x")]]]), False)

    def test_any_row(self):
        tried = Tried([WROTE, IDLE])
        for house in (0, 1):
            right = tried.found[house, LAST]
            for value in junk() + [([],), ({},), ("", ([],)), ("", ({}, 0)), ("", []), ("", None), ("", ("done",))]:
                self.assertIs(are_layers(tried.book, [house], ("not", ("at", [])), LAST, [[right, value]]),
                              is_row_of(tried, house, value), value)

    def test_any_value(self):
        tried = Tried([WROTE, IDLE])
        for houses in ([1], [0, 1], [1, 0]):
            for value in junk():
                asked = {"book": tried.book, "houses": houses, "fact": FACT, "point": LAST, "value": value}
                self.assertIs(self.yes_or_no(is_path_against, **asked), judge_path(tried, houses, FACT, LAST, value))
                self.assertIs(self.yes_or_no(are_layers, **asked), judge_layers(tried, houses, FACT, LAST, value))

    def test_ten_houses_and_more(self):
        tried = Tried([WROTE, IDLE])
        fact = ("not", ("at", [(1, (0, 0))]))
        for houses in ([0], [1] * 10, [0, 1] * 5, (0,) * 10, [1, 1, 0] * 3):
            for point in tried.points:
                known = point in tried.where_along(houses, tried.where(fact))
                self.assertIs(knows_along(tried.book, houses, fact, point), known)
                path, found = path_against(tried.book, houses, fact, point), layers(tried.book, houses, fact, point)
                self.assertIs(path is None, known)
                self.assertIs(found is None, not known)
                if path is not None:
                    self.assertIs(judge_path(tried, houses, fact, point, path), True)
                    self.assertIs(is_path_against(tried.book, houses, fact, point, path), True)
        for houses in ([], (), [0] * 11, [None] * 11):
            for function in ALONG:
                self.refuse(InvalidAlong, {"position": None}, function, book=tried.book, houses=houses, fact=fact,
                            point=LAST)

    def test_120_events(self):
        rows = full_picture().rows()
        whole = tuple(len(row) for row in rows)
        cuts = [least_cut(full_picture(), [event]) for event in full_picture().events()[::7]] + [(0,) * 6, whole]
        tried = Tried([rows, [[]] * 6], None, [sorted(set(cuts)), None])
        fact = ("not", ("at", [(1, (0,) * 6)]))
        for houses in ([0], [5, 4, 3, 2, 1, 0], [2] * 10):
            known = tried.where_along(houses, tried.where(fact))
            for point in tried.points:
                self.assertIs(knows_along(tried.book, houses, fact, point), point in known)

    def test_at_the_limits(self):
        rows = [[("do", "a")] * 19, [("do", "b")] * 19]
        book = Book([Picture(rows)] * 6, [[text, text] for text in ("a", "a", "b", "b", "a", "b")])
        fact, point = ("any", [("start", 0, "a"), ("done", 1, "b", 30)]), (0, (5, 5))
        self.assertIs(knows_along(book, [0, 1] * 5, fact, point), True)
        told = layers(book, [0, 1] * 5, fact, point)
        self.assertEqual([len(layer) for layer in told], [1] + [20] * 9)
        self.assertIs(are_layers(book, [0, 1] * 5, fact, point, told), True)
        other = ("not", ("at", [(4, (19, 0))]))
        path = path_against(book, [0, 1] * 5, other, point)
        self.assertIs(is_path_against(book, [0, 1] * 5, other, point, path), True)


class TestAlongErrors(Case):
    def test_houses(self):
        book = pair()
        for value in junk():
            wrong = None
            if is_listy(value) and 1 <= len(value) <= 10:
                places = [k for k, house in enumerate(value) if not (is_int(house) and 0 <= house < 2)]
                if not places:
                    continue
                wrong = places[0]
            for function in ALONG:
                self.refuse(InvalidAlong, {"position": wrong}, function, book=book, houses=value, fact=None, point=None)
            for function in JUDGES:
                self.refuse(InvalidAlong, {"position": wrong}, function, book=book, houses=value, fact=None,
                            point=None, value=None)
            self.refuse(InvalidAlong, {"position": wrong}, relay, book=book, houses=value, point=None, event=None)
            self.refuse(InvalidAlong, {"position": wrong}, is_relay, book=book, houses=value, point=None, event=None,
                        value=None)
            if not (is_int(value) and 0 <= value < 2):
                self.refuse(InvalidAlong, {"position": 2}, knows_along, book=book, houses=[0, 1, value, None],
                            fact=FACT, point=LAST)

    def test_facts_and_points(self):
        book, tried = pair(), Tried([WROTE, IDLE])
        for value in junk():
            for function in ALONG + JUDGES:
                more = {"value": None} if function in JUDGES else {}
                if not tried.is_fact(value):
                    self.refuse(InvalidFact, {"value": value}, function, book=book, houses=[0, 1], fact=value,
                                point=None, **more)
                if not tried.is_point(value):
                    self.refuse(InvalidPoint, {"value": value}, function, book=book, houses=[0, 1], fact=FACT,
                                point=value, **more)


class TestRelays(Case):
    def test_by_trying_all(self):
        seen = set()
        for seed in range(24):
            rows = some_rows(seed + 300, 1 + seed % 4, 6)
            tried = Tried([rows])
            events = [(house, place) for house, row in enumerate(rows) for place in range(len(row))]
            for point in tried.points[::3]:
                within = [event for event in events if event[1] < point[1][event[0]]]
                for event in within[::2]:
                    for houses in itertools.product(range(len(rows)), repeat=2):
                        asked = {"book": tried.book, "houses": list(houses), "point": point, "event": event}
                        some = [list(told) for told in itertools.product([event], within, within)
                                if judge_relay(rows, houses, point, event, told)]
                        told = self.ask(relay, **asked)
                        self.assertIs(told is None, not some)
                        seen.add(told is None)
                        if some:
                            self.assertIs(type(told), list)
                            self.assertIn(told, some)
                            self.assertIs(self.yes_or_no(is_relay, **asked, value=told), True)
                            for value in variants(told) + some[:3]:
                                self.assertIs(is_relay(*asked.values(), value),
                                              judge_relay(rows, houses, point, event, value), value)
        self.assertEqual(seen, {True, False})

    def test_one_and_the_same_event(self):
        book = pair()
        self.assertEqual(relay(book, [0, 0, 0], (0, (1, 0)), (0, 0)), [(0, 0)] * 4)
        self.assertIs(is_relay(book, [0], (0, (2, 1)), (0, 0), [(0, 0), (0, 1)]), True)
        self.assertIs(is_relay(book, [0], (0, (1, 0)), (0, 0), [(0, 0), (0, 1)]), False)
        self.assertIs(is_relay(book, [0], (0, (2, 1)), (0, 1), [(0, 1), (0, 0)]), False)
        self.assertIsNone(relay(book, [1], (0, (2, 0)), (0, 0)))
        self.assertIsNone(relay(book, [0, 1], (0, (2, 1)), (0, 0)))

    def test_any_value(self):
        for value in junk():
            told = self.yes_or_no(is_relay, book=pair(), houses=[1], point=LAST, event=(0, 0), value=value)
            self.assertIs(told, judge_relay(WROTE, [1], LAST, (0, 0), value))

    def test_errors(self):
        book, tried = pair(), Tried([WROTE, IDLE])
        for value in junk() + [(0, 1), (1, 0), (0, 2), (1, 1), (2, 0)]:
            if not tried.is_point(value):
                self.refuse(InvalidPoint, {"value": value}, relay, book=book, houses=[0], point=value, event=None)
                self.refuse(InvalidPoint, {"value": value}, is_relay, book=book, houses=[0], point=value, event=None,
                            value=None)
            for point in (LAST, (0, (1, 0)), (1, (1, 0))):
                rows = tried.all_rows[point[0]]
                if not (is_event_of(rows, value) and value[1] < point[1][value[0]]):
                    self.refuse(InvalidEvent, {"value": value}, relay, book=book, houses=[0], point=point, event=value)
                    self.refuse(InvalidEvent, {"value": value}, is_relay, book=book, houses=[0], point=point,
                                event=value, value=None)

    def test_who_knows_along_has_a_relay(self):
        asked = 0
        for tried in small_books():
            if any(len(cuts) != len(Tried([rows]).points) for cuts, rows in zip(tried.watched, tried.all_rows)):
                continue
            for number, cut in tried.points[::2]:
                for houses in itertools.product(range(tried.houses), repeat=2):
                    for house in range(tried.houses):
                        for text, often in itertools.product("ab", (1, 2)):
                            fact = ("done", house, text, often)
                            if knows_along(tried.book, houses, fact, (number, cut)):
                                places = [k for k, what in enumerate(tried.all_rows[number][house])
                                          if what == ("do", text)]
                                event = (house, places[often - 1])
                                self.assertIsNotNone(relay(tried.book, houses, (number, cut), event))
                                asked += 1
        self.assertGreater(asked, 30)

    def test_ten_houses(self):
        rows = [[("do", "w")] + [("say", k, (k + 1) % 2, "") if k % 2 == 0 else ("hear", k) for k in range(9)],
                [("hear", k) if k % 2 == 0 else ("say", k, 0, "") for k in range(9)]]
        book = Book([Picture(rows)])
        point = (0, (10, 9))
        told = relay(book, [1, 0] * 5, point, (0, 0))
        self.assertIs(is_relay(book, [1, 0] * 5, point, (0, 0), told), True)
        self.assertIsNone(relay(book, [1, 0] * 5, (0, (9, 8)), (0, 0)))
        self.assertIsNotNone(relay(Book([grid(1, 120)]), [0] * 10, (0, (120,)), (0, 119)))


if __name__ == "__main__":
    unittest.main()

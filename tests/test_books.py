"""[21], [22], [28]: books, points, rows, facts, and pictures told in full."""

import itertools
import unittest

from oneshelf.books import Book, holds, is_fact, told_in_full
from oneshelf.errors import (InvalidFact, InvalidHouse, InvalidNumber, InvalidPictures, InvalidPoint, InvalidStarts,
                             InvalidWatched, TooMany)
from oneshelf.knowing import knows_along, relay
from oneshelf.pictures import Picture
from support import Case, Dice, all_events, full_picture, grid, is_int, is_listy, junk, some_rows, try_cuts, variants
from tried import SMALL, Tried, small_books, without_event

WROTE = [[("do", "w"), ("say", 0, 1, "x")], [("hear", 0)]]
IDLE = [[("say", 0, 1, "y")], [("hear", 0)]]


def pair():
    return Book([Picture(WROTE), Picture(IDLE)])


def is_short(value):
    return type(value) is str and len(value) <= 8 and all(sign in SMALL for sign in value)


class TestExamples(Case):
    def test_the_document(self):
        book = pair()
        self.assertEqual(self.ask(book.row, house=1, point=(0, (2, 1))), ("", ("heard", 0, "x")))
        self.assertEqual(self.ask(book.alike, house=0, point=(0, (2, 1))), [(0, (2, 0)), (0, (2, 1))])
        self.assertEqual(repr(Book([Picture([[]])])), "Book([Picture([[]])], [['']], [[(0,)]])")


class TestPictures(Case):
    def test_wrong_pictures(self):
        right = Picture(WROTE)
        for value in junk():
            if is_listy(value) and value:
                position = 0 if not isinstance(value[0], Picture) else None
                if position is not None:
                    self.refuse(InvalidPictures, {"position": position}, Book, pictures=value)
            else:
                self.refuse(InvalidPictures, {"position": None}, Book, pictures=value)
            if not isinstance(value, Picture):
                self.refuse(InvalidPictures, {"position": 1}, Book, pictures=[right, value, None])
        self.refuse(InvalidPictures, {"position": None}, Book, pictures=right)
        self.refuse(InvalidPictures, {"position": None}, Book, pictures=[right] * 7)
        self.refuse(InvalidPictures, {"position": None}, Book, pictures=[None] * 7)
        self.refuse(InvalidPictures, {"position": 0}, Book, pictures=[WROTE])

    def test_unlike_numbers_of_houses(self):
        two, three = Picture([[], []]), Picture([[], [], []])
        self.refuse(InvalidPictures, {"position": 2}, Book, pictures=[two, two, three, None])
        self.refuse(InvalidPictures, {"position": 1}, Book, pictures=(three, two, three))
        self.refuse(InvalidPictures, {"position": 1}, Book, pictures=[two, None, three])

    def test_one_to_six(self):
        for many in range(1, 7):
            book = Book([Picture(WROTE)] * many)
            self.assertEqual((len(book), book.houses, book.pictures), (many, 2, [Picture(WROTE)] * many))
        self.assertEqual(Book((Picture(WROTE), Picture(IDLE))), pair())


class TestStarts(Case):
    def test_wrong_starts(self):
        pictures = [Picture(WROTE), Picture(IDLE)]
        for value in junk():
            if value is None:
                continue
            if not is_listy(value) or len(value) != 2:
                self.refuse(InvalidStarts, {"position": None}, Book, pictures=pictures, starts=value)
            if not (is_listy(value) and len(value) == 2 and all(is_short(text) for text in value)):
                self.refuse(InvalidStarts, {"position": 0}, Book, pictures=pictures, starts=[value, ["", "a"]])
                self.refuse(InvalidStarts, {"position": 1}, Book, pictures=pictures, starts=[["", "a"], value])
            if not is_short(value):
                self.refuse(InvalidStarts, {"position": 1}, Book, pictures=pictures, starts=[["", "a"], ["", value]])
                self.refuse(InvalidStarts, {"position": 0}, Book, pictures=pictures, starts=([value, "a"], [None]))
        self.refuse(InvalidStarts, {"position": None}, Book, pictures=pictures, starts=[["", ""]])
        self.refuse(InvalidStarts, {"position": 1}, Book, pictures=pictures, starts=[["", ""], None])
        self.refuse(InvalidStarts, {"position": 0}, Book, pictures=pictures, starts=["ab", ["", ""]])
        self.refuse(InvalidStarts, {"position": 1}, Book, pictures=pictures, starts=[["", ""], ["", "", ""]])
        self.refuse(InvalidPictures, {"position": 1}, Book, pictures=[Picture(WROTE), 0], starts=7, watched=7)

    def test_right_starts(self):
        book = Book([Picture(WROTE), Picture(IDLE)], (("a", ""), ["b", "12345678"]))
        self.assertEqual(self.ask(book.starts), [["a", ""], ["b", "12345678"]])
        self.assertEqual(pair().starts(), [["", ""], ["", ""]])
        self.assertEqual(book.row(0, (0, (1, 0))), ("a", ("done", "w")))


class TestWatched(Case):
    def test_wrong_watched(self):
        pictures = [Picture(WROTE), Picture(IDLE)]
        right = [[(0, 0), (1, 0), (2, 0), (2, 1)], [(0, 0), (1, 1)]]
        cuts = [try_cuts(WROTE), try_cuts(IDLE)]

        def good(number, value):
            if value is None:
                return True
            if not is_listy(value) or not all(
                    type(cut) is tuple and all(is_int(part) for part in cut) and cut in cuts[number] for cut in value):
                return False
            return len(set(value)) == len(value) and cuts[number][0] in value and cuts[number][-1] in value

        for value in junk() + variants(right):
            if value is None:
                continue
            if not is_listy(value) or len(value) != 2:
                self.refuse(InvalidWatched, {"position": None}, Book, pictures=pictures, starts=None, watched=value)
                continue
            wrong = [number for number in (0, 1) if not good(number, value[number])]
            if wrong:
                self.refuse(InvalidWatched, {"position": wrong[0]}, Book, pictures=pictures, starts=None,
                            watched=value)
            else:
                self.assertEqual(Book(pictures, watched=value).watched(0), sorted(value[0] or cuts[0]))

    def test_the_first_wrong_one(self):
        pictures = [Picture(WROTE), Picture(IDLE)]
        for watched, position in (([[(0, 0)], [(1, 1)]], 0), ([None, [(0, 0)]], 1), ([None, [(1, 1)]], 1),
                                  ([[(0, 0), (2, 1), (0, 1)], None], 0), ([[], None], 0), ([None, ()], 1),
                                  ([[(0, 0), (2, 1), (2, 1)], 5], 0), ([[(0, 0), (2, 1), [1, 0]], 5], 0),
                                  ([[(0, 0), (2, True)], 5], 0), ([[(False, 0), (2, 1)], 5], 0)):
            self.refuse(InvalidWatched, {"position": position}, Book, pictures=pictures, starts=None, watched=watched)
        self.refuse(InvalidStarts, {"position": None}, Book, pictures=pictures, starts=[], watched=[])

    def test_right_ones(self):
        book = Book([Picture(WROTE), Picture(IDLE)], watched=([(2, 1), (0, 0)], None))
        self.assertEqual(self.ask(book.watched, number=0), [(0, 0), (2, 1)])
        self.assertEqual(self.ask(book.watched, number=1), [(0, 0), (1, 0), (1, 1)])
        self.assertEqual(self.ask(book.points), [(0, (0, 0)), (0, (2, 1)), (1, (0, 0)), (1, (1, 0)), (1, (1, 1))])
        empty = Book([Picture([[], []])], watched=[[(0, 0)]])
        self.assertEqual(empty.points(), [(0, (0, 0))])
        self.refuse(InvalidWatched, {"position": 0}, Book, pictures=[Picture([[], []])], starts=None,
                    watched=[[(0, 0), (0, 0)]])

    def test_four_hundred_and_more(self):
        self.assertEqual(len(Book([grid(2, 19)]).points()), 400)
        told = Book([grid(2, 19)] * 6)
        self.assertEqual(len(told.points()), 2400)
        self.assertEqual(len(told.alike(0, (3, (5, 6)))), 120)
        more = Picture([[("do", "a")] * size for size in (1, 2, 66)])
        cuts = try_cuts(more.rows())
        self.assertEqual(len(cuts), 402)
        limit = {"what": "cuts", "limit": 400}
        self.refuse(TooMany, limit, Book, pictures=[more])
        self.refuse(TooMany, limit, Book, pictures=[Picture([[]] * 3), more])
        self.refuse(TooMany, limit, Book, pictures=[full_picture()])
        self.refuse(TooMany, limit, Book, pictures=[more], starts=None, watched=[cuts])
        self.refuse(TooMany, limit, Book, pictures=[more], starts=None, watched=[cuts[:200] + cuts[201:]])
        book = Book([more], None, [cuts[::-1][:200] + cuts[:200]])
        self.assertEqual(len(book.watched(0)), 400)
        few = Book([full_picture()], watched=[[(0,) * 6, tuple(len(row) for row in full_picture().rows())]])
        self.assertEqual(len(few.points()), 2)

    def test_too_many_comes_last(self):
        more = Picture([[("do", "a")] * size for size in (1, 2, 66)])
        self.refuse(InvalidWatched, {"position": 1}, Book, pictures=[more, more], starts=None, watched=[None, 3])
        self.refuse(InvalidStarts, {"position": 0}, Book, pictures=[more], starts=[[]], watched=None)
        self.refuse(InvalidPictures, {"position": 1}, Book, pictures=[more, None], starts=None, watched=None)


class TestPoints(Case):
    def test_by_trying_all(self):
        for tried in small_books():
            book = tried.book
            self.assertEqual(self.ask(book.points), tried.points)
            self.assertEqual(self.ask(book.starts), tried.starts)
            self.assertEqual(book.houses, tried.houses)
            self.assertEqual(len(book), len(tried.all_rows))
            for number in range(len(book)):
                self.assertEqual(self.ask(book.watched, number=number), tried.watched[number])
            for point in tried.points:
                for house in range(tried.houses):
                    self.assertEqual(self.ask(book.row, house=house, point=point), tried.found[house, point])
                    self.assertEqual(self.ask(book.alike, house=house, point=point), tried.near[house, point])

    def test_contains(self):
        for tried in small_books(12):
            values = junk() + [value for point in tried.points[::4] for value in variants(point)]
            values += [(number, cut) for number, rows in enumerate(tried.all_rows) for cut in try_cuts(rows)]
            for value in values:
                self.assertIs(value in tried.book, tried.is_point(value), value)

    def test_wrong_houses_and_points(self):
        book = Book([Picture(WROTE), Picture(IDLE)], watched=[None, [(0, 0), (1, 1)]])
        tried = Tried([WROTE, IDLE], None, [None, [(0, 0), (1, 1)]])
        for value in junk() + [2, (1, (1, 0)), (2, (0, 0)), (True, (0, 0)), (0, (False, False)), (0, [0, 0])]:
            for function in (book.row, book.alike):
                if not tried.is_house(value):
                    self.refuse(InvalidHouse, {"value": value}, function, house=value, point=None)
                if not tried.is_point(value):
                    self.refuse(InvalidPoint, {"value": value}, function, house=1, point=value)
            if not (is_int(value) and value in (0, 1)):
                self.refuse(InvalidNumber, {"value": value}, book.watched, number=value)

    def test_equality(self):
        one, other = Picture(WROTE), Picture(IDLE)
        book = pair()
        cuts = [try_cuts(WROTE)[::-1], try_cuts(IDLE)]
        for same in (Book([one, other], [["", ""], ["", ""]]), Book([one, other], None, cuts),
                     Book([one, other], watched=[None, cuts[1]]), Book((one, other), None, [None, None])):
            self.assertTrue(book == same)
            self.assertFalse(book != same)
        for unlike in (Book([other, one]), Book([one]), Book([one, other, one]), Book([one, one]),
                       Book([one, other], [["a", ""], ["", ""]]), Book([one, other], watched=[[(0, 0), (2, 1)], None]),
                       Book([other, other])):
            self.assertFalse(book == unlike)
        self.assertFalse(Book([Picture([[("do", "a")]])]) == Book([Picture([[("do", "b")]])]))
        self.assertFalse(Book([Picture([[], []])], [["a", "b"]]) == Book([Picture([[], []])], [["b", "a"]]))
        for value in junk():
            self.assertIs(book == value, False)

    def test_repr(self):
        self.assertEqual(repr(Book([Picture([[], [("do", "a")]])], [["x", ""]], [[(0, 1), (0, 0)]])),
                         "Book([Picture([[], [('do', 'a')]])], [['x', '']], [[(0, 0), (0, 1)]])")
        for tried in small_books():
            pictures = [Picture(rows) for rows in tried.all_rows]
            self.assertEqual(repr(tried.book), f"Book({pictures}, {tried.starts}, {tried.watched})")
            self.assertEqual(eval(repr(tried.book)), tried.book)

    def test_what_was_passed_is_changed(self):
        pictures, starts = [Picture(WROTE), Picture(IDLE)], [["a", ""], ["", ""]]
        watched = [[(0, 0), (2, 1)], [(1, 1), (0, 0)]]
        book = Book(pictures, starts, watched)
        was = repr(book)
        pictures.pop()
        starts[0][0] = "z"
        starts.clear()
        watched[0].append((1, 0))
        watched.clear()
        for told in (book.pictures, book.starts(), book.starts()[0], book.watched(0), book.points(),
                     book.alike(0, (0, (0, 0)))):
            told.clear()
        self.assertEqual(repr(book), was)
        self.assertEqual(len(book.points()), 4)
        self.assertEqual(book.alike(0, (0, (0, 0))), [(0, (0, 0))])
        self.assertEqual(book.alike(1, (0, (0, 0))), [(0, (0, 0)), (1, (0, 0))])


class TestFacts(Case):
    def test_holds(self):
        for number, tried in enumerate(small_books()):
            for seed in range(12):
                fact = tried.some_fact(Dice(number * 100 + seed))
                self.assertIs(self.yes_or_no(is_fact, book=tried.book, value=fact), True)
                for point in tried.points[::2]:
                    told = self.yes_or_no(holds, book=tried.book, fact=fact, point=point)
                    self.assertIs(told, tried.holds(fact, point))

    def test_what_is_a_fact(self):
        for number, tried in enumerate(small_books(12)):
            for seed in range(10):
                fact = tried.some_fact(Dice(number * 77 + seed))
                for value in variants(fact):
                    self.assertIs(is_fact(tried.book, value), tried.is_fact(value), value)

    def test_any_value(self):
        tried = Tried([WROTE, IDLE])
        values = junk() + [("done", 0, "a", 0), ("done", 0, "a", True), ("done", True, "a", 1), ("done", 2, "a", 1),
                           ("done", 0, "A", 1), ("done", 0, "", 1), ("done", 0, "a", 10 ** 20), ("start", 0, ""),
                           ("start", 0), ("start", 0, None), ("at", []), ("at", ()), ("at", [None]), ("at", 0), ("at",),
                           ("all", []), ("any", []), ("all", [("at", [])] * 4), ("all", [("at", [])] * 5),
                           ("any", (("at", []),)), ("not",), ("not", None), ("not", ("at", []), 0), ["at", []],
                           ("at", [(0, (0, 0)), (0, (0, 0))]), ("at", [(0, (0, False))]), ("at", ((1, (1, 1)),)),
                           ("none", ("at", [])), ("not", ("not", ("start", 1, "b"))), ("all", ("at", []))]
        for value in values:
            told = self.yes_or_no(is_fact, book=tried.book, value=value)
            self.assertIs(told, tried.is_fact(value), value)

    def test_twelve_facts_and_more(self):
        book = pair()
        leaf, deep = ("at", []), ("at", [])
        for many in range(1, 13):
            self.assertIs(is_fact(book, deep), True, many)
            self.assertIs(holds(book, deep, (0, (0, 0))), many % 2 == 0)
            deep = ("not", deep)
        self.assertIs(is_fact(book, deep), False)
        four = ("any", [leaf] * 4)
        for wide, right in ((("all", [four, four, leaf]), True), (("all", [four, four, leaf, leaf]), False),
                            (("all", [four, four, ("not", leaf)]), False), (("all", [four, leaf, leaf, four]), False),
                            (("all", [four, ("any", [leaf] * 3), leaf, leaf]), True)):
            self.assertIs(is_fact(book, wide), right)
        self.refuse(InvalidFact, {"value": deep}, holds, book=book, fact=deep, point=(0, (0, 0)))

    def test_how_often(self):
        book = Book([Picture([[("do", "a"), ("do", "b"), ("do", "a")]])])
        told = [[holds(book, ("done", 0, "a", k), (0, (count,))) for count in range(4)] for k in (1, 2, 3)]
        self.assertEqual(told, [[False, True, True, True], [False, False, False, True], [False] * 4])

    def test_errors(self):
        book, fact, point = pair(), ("done", 0, "w", 1), (0, (2, 1))
        tried = Tried([WROTE, IDLE])
        for value in junk():
            if not tried.is_fact(value):
                self.refuse(InvalidFact, {"value": value}, holds, book=book, fact=value, point=point)
                self.refuse(InvalidFact, {"value": value}, holds, book=book, fact=value, point=None)
            if not tried.is_point(value):
                self.refuse(InvalidPoint, {"value": value}, holds, book=book, fact=fact, point=value)

    def test_a_fact_is_changed(self):
        book, points = pair(), [(0, (0, 0))]
        fact = ("at", points)
        self.assertIs(holds(book, fact, (0, (1, 0))), False)
        points.append((0, (1, 0)))
        self.assertIs(holds(book, fact, (0, (1, 0))), True)
        self.assertEqual(points, [(0, (0, 0)), (0, (1, 0))])


class TestToldInFull(Case):
    def expected(self, rows):
        letters = sorted(what[1] for row in rows for what in row if what[0] == "say")
        plain = [[what[:3] + (f"m{letters.index(what[1])}",) if what[0] == "say" else what for what in row]
                 for row in rows]
        deeds = [event for event in all_events(rows) if rows[event[0]][event[1]][0] == "do"]
        return Book([Picture(plain)] + [Picture(without_event(plain, event)) for event in deeds])

    def test_by_trying_all(self):
        seen = set()
        for seed in range(60):
            rows = some_rows(seed, 1 + seed % 4, 4 + seed % 4)
            deeds = sum(what[0] == "do" for row in rows for what in row)
            if deeds <= 5:
                seen.add(deeds)
                self.assertEqual(self.ask(told_in_full, picture=Picture(rows)), self.expected(rows))
        self.assertLessEqual({0, 1, 2, 3, 4}, seen)

    def test_limits(self):
        self.assertEqual(len(told_in_full(grid(1, 5))), 6)
        self.assertEqual(told_in_full(grid(1, 5)).points()[-1], (5, (4,)))
        self.refuse(TooMany, {"what": "pictures", "limit": 6}, told_in_full, picture=grid(1, 6))
        self.refuse(TooMany, {"what": "pictures", "limit": 6}, told_in_full, picture=grid(2, 60))
        many = [[("say", k * 30 + j, (k + 1) % 3, "") for j in range(20)] for k in range(3)]
        self.refuse(TooMany, {"what": "cuts", "limit": 400}, told_in_full, picture=Picture(many))
        self.assertEqual(len(told_in_full(Picture([[], []]))), 1)
        self.assertEqual(told_in_full(Picture([[], []])).points(), [(0, (0, 0))])

    def test_letters_keep_their_texts(self):
        rows = [[("do", "a"), ("say", 1, 1, "q")], [("say", 7, 2, "q")], [("hear", 7)]]
        book = told_in_full(Picture(rows))
        self.assertEqual([picture.rows() for picture in book.pictures],
                         [[[("do", "a"), ("say", 1, 1, "m0")], [("say", 7, 2, "m1")], [("hear", 7)]],
                          [[], [("say", 7, 2, "m1")], [("hear", 7)]]])

    def test_many_letters(self):
        rows = [[("say", k, 1, "x") for k in range(60)], [("hear", k) for k in range(60)]]
        self.refuse(TooMany, {"what": "cuts", "limit": 400}, told_in_full, picture=Picture(rows))
        rows = [[("say", k, 1, "x") for k in range(119, 0, -1)], []]
        told = told_in_full(Picture(rows)).pictures[0].rows()
        self.assertEqual(told[0][0], ("say", 119, 1, "m118"))
        self.assertEqual(told[0][-1], ("say", 1, 1, "m0"))

    def test_relays_tell_who_knows_along(self):
        asked = 0
        for seed in range(80):
            rows = some_rows(seed + 900, 2 + seed % 2, 6, texts="m")
            deeds = [event for event in all_events(rows) if rows[event[0]][event[1]][0] == "do"]
            for number, (house, place) in enumerate(deeds):
                rows[house][place] = ("do", f"d{number}")
            if not 1 <= len(deeds) <= 4:
                continue
            book = told_in_full(Picture(rows))
            for number, event in enumerate(deeds):
                for cut in book.watched(0):
                    for houses in itertools.product(range(len(rows)), repeat=2):
                        fact = ("done", event[0], f"d{number}", 1)
                        known = knows_along(book, houses, fact, (0, cut))
                        within = event[1] < cut[event[0]]
                        found = relay(book, houses, (0, cut), event) if within else None
                        self.assertIs(known, found is not None)
                        asked += known
        self.assertGreater(asked, 100)


if __name__ == "__main__":
    unittest.main()

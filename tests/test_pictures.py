"""[11], [2], [3]: pictures, what is in them, and their lines."""

import unittest

from oneshelf.errors import InvalidCut, InvalidEvent, InvalidRows, TooMany
from oneshelf.failures import UnknownLetter
from oneshelf.pictures import Picture, is_line, least_line
from support import (Case, all_events, full_picture, grid, is_event_of, junk, line_fault, small_pictures, some_rows,
                     try_cuts, try_lines, variants, walk)

ROWS = [[("do", "a"), ("say", 5, 1, "x")], [("hear", 5), ("do", "b")], [("do", "c")]]

WRONG = [
    ([], None), ((), None), (None, None), ("ab", None), (0, None), (True, None), ({}, None), ({0: []}, None),
    ({1, 2}, None), (range(2), None), (b"ab", None),
    ([None], 0), ([[], None], 1), ([[], "do"], 1), ([[], {}], 1), ([0, []], 0), ([[], set()], 1), ([[], range(0)], 1),
    ([[("do", "a")], [("do",)]], 1), ([[("do", "a", "b")]], 0), ([[("do", "A")]], 0), ([[("do", "abcdefghi")]], 0),
    ([[("do", 0)]], 0), ([[("do", None)]], 0), ([[["do", "a"]]], 0), ([["do"]], 0), ([[()]], 0), ([[("run", "a")]], 0),
    ([[("tell", 0, 1, "a")], []], 0), ([[("do", 0, 1, "a")], []], 0), ([[(0, "a")]], 0), ([[("hear",)]], 0),
    ([[([], "a")]], 0), ([[("", "a")]], 0), ([[("Do", "a")]], 0),
    ([[("say", 0, 1)], []], 0), ([[("say", 0, 1, "a", "b")], []], 0), ([[("say", -1, 1, "a")], []], 0),
    ([[("say", True, 1, "a")], []], 0), ([[("say", 0, True, "a")], []], 0), ([[("say", "0", 1, "a")], []], 0),
    ([[("say", 0, 0, "a")], []], 0), ([[("say", 0, 2, "a")], []], 0), ([[("say", 0, -1, "a")], []], 0),
    ([[("say", 0, 1, "-")], []], 0), ([[("say", 0, 1, 3)], []], 0), ([[("say", 0, None, "a")], []], 0),
    ([[("say", None, 1, "a")], []], 0), ([[("say", 0, 1, None)], []], 0), ([[("say", 0, False, "a")], []], 0),
    ([[("say", 0, 1, "a"), ("say", 0, 1, "a")], []], 0),
    ([[("say", 0, 1, "a")], [("say", 0, 0, "a")]], 1), ([[], [("say", 0, 0, "a")], [("say", 0, 0, "a")]], 2),
    ([[("hear", 0)], []], 0), ([[], [("hear", 0)]], 1), ([[("say", 0, 1, "a")], [("hear", 1)]], 1),
    ([[("say", 0, 1, "a")], [("hear", False)]], 1), ([[("say", 1, 1, "a")], [("hear", True)]], 1),
    ([[("say", 0, 1, "a")], [("hear", -1)]], 1), ([[("say", 0, 1, "a")], [("hear", "0")]], 1),
    ([[("say", 0, 1, "a")], [("hear", 0), ("hear", 0)]], 1), ([[("say", 0, 1, "a")], [], [("hear", 0)]], 2),
    ([[("say", 0, 1, "a")], [("hear", 0)], [("hear", 0)]], 2), ([[("say", 0, 1, "a")], [("hear", 0, 0)]], 1),
    ([[("hear", 0), ("say", 0, 1, "a")], []], 0),
    # Of several wrong rows the first one is told, whatever is wrong with it.
    ([[("hear", 0)], None], 0), ([[], None, [("hear", 0)]], 1), ([[("do", "a")], [("hear", 3)], "x"], 1),
    # What a wrong row says is said all the same, if it is an event of these rows.
    ([[("hear", 0)], [("say", 0, 0, "a"), None]], 1), ([[("hear", 0)], [("say", 0, 0, "a"), ("do", "A")]], 1),
    ([[("hear", 0)], (("say", 0, 0, "a"), 7)], 1), ([[("hear", 0)], [("say", 0, 0, "A"), None]], 0),
    ([[("hear", 0)], [["say", 0, 0, "a"]]], 0),
    ([[("hear", 0)], [], [("say", 0, 1, "a")]], 0),
    # A letter that is said to one house, and then again to another one: the second saying is wrong.
    ([[("say", 0, 1, "a")], [("hear", 0)], [], [("say", 0, 2, "a")]], 3),
    ([[("say", 0, 1, "a")], [], [("hear", 0)], [("say", 0, 2, "a")]], 3),
    ([[("say", 0, 1, "a")], [("hear", 0)], [("hear", 0)], [("say", 0, 2, "a")]], 2),
    # There is no line.
    ([[("hear", 1), ("say", 0, 1, "")], [("hear", 0), ("say", 1, 0, "")]], None),
    ([[("hear", 2), ("say", 0, 1, "")], [("hear", 0), ("say", 1, 2, "")], [("hear", 1), ("say", 2, 0, "")]], None),
    ([[("do", "a")], [("hear", 1), ("do", "b"), ("say", 0, 2, "")], [("hear", 0), ("say", 1, 1, "")]], None),
]


class TestRows(Case):
    def test_wrong_rows(self):
        for rows, position in WRONG:
            with self.subTest(rows=rows):
                self.refuse(InvalidRows, {"position": position}, Picture, rows=rows)

    def test_junk_is_no_rows(self):
        for value in junk():
            if isinstance(value, (list, tuple)) and value:
                position = [isinstance(row, (list, tuple)) and not row for row in value]
                if not all(position):
                    self.refuse(InvalidRows, {"position": position.index(False)}, Picture, rows=value)
                    self.refuse(InvalidRows, {"position": 1 + position.index(False)}, Picture, rows=[[]] + list(value))
            else:
                self.refuse(InvalidRows, {"position": None}, Picture, rows=value)
                if value not in ([], ()):
                    self.refuse(InvalidRows, {"position": 1}, Picture, rows=[[], value])
                self.refuse(InvalidRows, {"position": 1}, Picture, rows=[[], [value]])

    def test_lists_and_tuples(self):
        told = Picture(ROWS)
        for rows in (tuple(ROWS), [tuple(row) for row in ROWS], tuple(tuple(row) for row in ROWS)):
            self.assertEqual(Picture(rows), told)
            self.assertEqual(Picture(rows=rows).rows(), ROWS)

    def test_right_ones(self):
        for rows in ([[]], [[], []], [[("do", "")]], [[("say", 0, 1, "")], []], [[("say", 10 ** 20, 1, "")], []],
                     [[("say", 1, 1, "a"), ("say", 0, 1, "b")], [("hear", 0), ("hear", 1)]],
                     [[("hear", 0)], [("say", 0, 0, "")]]):
            self.assertEqual(Picture(rows).rows(), rows)

    def test_limits(self):
        self.assertEqual(Picture([[]] * 6).houses, 6)
        self.refuse(TooMany, {"what": "houses", "limit": 6}, Picture, rows=[[]] * 7)
        self.assertEqual(len(Picture([[("do", "a")] * 120])), 120)
        self.refuse(TooMany, {"what": "events", "limit": 120}, Picture, rows=[[("do", "a")] * 121])
        self.refuse(TooMany, {"what": "events", "limit": 120}, Picture, rows=[[("do", "a")] * 61, [("do", "")] * 60])
        self.refuse(TooMany, {"what": "houses", "limit": 6}, Picture, rows=[[("do", "a")] * 121] + [[]] * 6)

    def test_limits_come_last(self):
        many = [[("do", "a")] * 121] + [[]] * 6
        self.refuse(InvalidRows, {"position": 7}, Picture, rows=many + [None])
        ring = [[("hear", 1), ("say", 0, 1, "")], [("hear", 0), ("say", 1, 0, "")]]
        self.refuse(InvalidRows, {"position": None}, Picture, rows=ring + [[]] * 5)
        self.refuse(InvalidRows, {"position": None}, Picture, rows=ring + [[("do", "a")] * 121])

    def test_full_picture(self):
        rows = some_rows(5, 6, 120)
        picture = Picture(rows)
        self.assertEqual((picture.houses, len(picture), picture.rows()), (6, 120, rows))
        self.assertEqual(picture.events(), all_events(rows))


class TestParts(Case):
    def test_ordinary(self):
        picture = Picture(ROWS)
        self.assertEqual(picture.houses, 3)
        self.assertEqual(len(picture), 5)
        self.assertEqual(self.ask(picture.rows), ROWS)
        self.assertEqual(self.ask(picture.events), [(0, 0), (0, 1), (1, 0), (1, 1), (2, 0)])
        self.assertEqual(self.ask(picture.letters), [5])
        self.assertEqual(self.ask(picture.said, letter=5), (0, 1))
        self.assertEqual(self.ask(picture.heard, letter=5), (1, 0))
        self.assertEqual(picture[1, 0], ("hear", 5))
        self.assertIs(type(picture.rows()[0]), list)

    def test_small_ones(self):
        for picture in small_pictures() + [full_picture()]:
            rows = picture.rows()
            self.assertEqual(picture.events(), all_events(rows))
            self.assertEqual(len(picture), len(all_events(rows)))
            self.assertEqual(picture.houses, len(rows))
            whats = {event: rows[event[0]][event[1]] for event in all_events(rows)}
            self.assertEqual(picture.letters(), sorted(what[1] for what in whats.values() if what[0] == "say"))
            for letter in picture.letters():
                self.assertEqual(whats[picture.said(letter)][:2], ("say", letter))
                heard = [event for event in whats if whats[event] == ("hear", letter)]
                self.assertEqual(picture.heard(letter), heard[0] if heard else None)
            for event, what in whats.items():
                self.assertEqual(picture[event], what)

    def test_a_letter_that_is_never_heard(self):
        picture = Picture([[("say", 0, 1, "a"), ("say", 4, 1, "")], [("hear", 4)]])
        self.assertIsNone(picture.heard(0))
        self.assertEqual(picture.said(0), (0, 0))
        self.assertEqual(picture.letters(), [0, 4])

    def test_unknown_letters(self):
        picture = Picture([[("say", 0, 1, "a"), ("say", 1, 1, "")], [("hear", 1)]])
        for value in junk() + [2, 3]:
            if not (type(value) is int and value in (0, 1)):
                self.refuse(UnknownLetter, {"value": value}, picture.said, letter=value)
                self.refuse(UnknownLetter, {"value": value}, picture.heard, letter=value)
        self.refuse(UnknownLetter, {"value": 0}, Picture([[]]).said, letter=0)

    def test_contains(self):
        for picture in small_pictures()[:12]:
            for value in junk() + [part for event in picture.events() for part in variants(event)]:
                self.assertIs(value in picture, is_event_of(picture.rows(), value), value)
                if value not in picture:
                    with self.assertRaises(InvalidEvent) as caught:
                        picture[value]
                    self.assertIs(type(caught.exception.value), type(value))
                    self.assertEqual(caught.exception.value, value)

    def test_equality(self):
        pictures = small_pictures()
        for picture in pictures:
            self.assertTrue(picture == Picture(picture.rows()))
            self.assertFalse(picture != Picture(picture.rows()))
            for value in junk():
                if not isinstance(value, Picture):
                    self.assertIs(picture == value, False)
        for one in pictures:
            for other in pictures:
                self.assertIs(one == other, one.rows() == other.rows())
        self.assertFalse(Picture([[("do", "a")]]) == Picture([[("do", "b")]]))
        self.assertFalse(Picture([[], []]) == Picture([[]]))
        self.assertFalse(Picture(ROWS) == ROWS)

    def test_repr(self):
        self.assertEqual(repr(Picture([[("do", "a")], []])), "Picture([[('do', 'a')], []])")
        self.assertEqual(repr(Picture(((("do", ""),), ()))), "Picture([[('do', '')], []])")
        for picture in small_pictures():
            self.assertEqual(repr(picture), f"Picture({picture.rows()})")
            self.assertEqual(eval(repr(picture)), picture)

    def test_what_was_passed_is_changed(self):
        rows = [[("do", "a")], [("do", "b")]]
        picture = Picture(rows)
        rows[0].append(("do", "c"))
        rows.append([])
        rows[1][0] = ("do", "z")
        self.assertEqual(picture.rows(), [[("do", "a")], [("do", "b")]])
        told = picture.rows()
        told[0].clear()
        told.pop()
        picture.events().clear()
        picture.letters().append(3)
        self.assertEqual(picture, Picture([[("do", "a")], [("do", "b")]]))
        self.assertEqual((picture.letters(), picture.events(), len(picture)), ([], [(0, 0), (1, 0)], 2))


class TestBeginnings(Case):
    def test_all(self):
        for picture in small_pictures():
            rows = picture.rows()
            for cut in try_cuts(rows):
                told = self.ask(picture.beginning, cut=cut)
                self.assertEqual(told.rows(), [row[:count] for row, count in zip(rows, cut)])
            self.assertEqual(picture, Picture(rows))

    def test_no_cuts(self):
        for picture in small_pictures()[:16]:
            cuts = try_cuts(picture.rows())
            values = junk() + [value for cut in cuts[::3] for value in variants(cut)]
            for value in values:
                if not (type(value) is tuple and all(type(part) is int for part in value) and value in cuts):
                    self.refuse(InvalidCut, {"value": value}, picture.beginning, cut=value)


class TestLines(Case):
    def test_least_lines(self):
        for picture in small_pictures():
            self.assertEqual(self.ask(least_line, picture=picture), try_lines(picture.rows())[0])

    def test_what_is_a_line(self):
        for picture in small_pictures():
            rows = picture.rows()
            lines = try_lines(rows)
            for line in lines[:8] + lines[-8:]:
                self.assertIs(self.yes_or_no(is_line, picture=picture, value=line), True)
                self.assertIs(is_line(picture, tuple(line)), True)
                for value in variants(line):
                    self.assertIs(is_line(picture, value), line_fault(rows, lines, value)[0], (rows, value))

    def test_any_value(self):
        for picture in small_pictures()[:12]:
            rows = picture.rows()
            for value in junk():
                told = self.yes_or_no(is_line, picture=picture, value=value)
                self.assertIs(told, line_fault(rows, try_lines(rows), value)[0], value)

    def test_at_the_limits(self):
        for picture in (full_picture(), grid(6, 20), grid(1, 120)):
            line = least_line(picture)
            self.assertIs(is_line(picture, line), True)
            cuts, events = walk(picture.rows(), line)
            self.assertEqual(sorted(events), picture.events())
            self.assertIs(is_line(picture, line[:-1]), False)
        self.assertEqual(least_line(grid(6, 20)), [house for house in range(6) for _ in range(20)])

    def test_the_empty_line(self):
        self.assertEqual(least_line(Picture([[], []])), [])
        self.assertIs(is_line(Picture([[], []]), []), True)
        self.assertIs(is_line(Picture([[], []]), ()), True)
        self.assertIs(is_line(Picture([[], []]), None), False)
        self.assertIs(is_line(Picture([[], [("do", "")]]), [True]), False)
        self.assertIs(is_line(Picture([[], [("do", "")]]), [1]), True)


if __name__ == "__main__":
    unittest.main()

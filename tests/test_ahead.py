"""[4], [12], [13], [14]: what is ahead of what, chains, clocks, and lines with neighbours exchanged."""

import unittest

from oneshelf.ahead import chain, clock, exchanges, is_ahead, is_chain, is_way, line_against, way
from oneshelf.errors import InvalidEvent, InvalidLine, TooMany
from oneshelf.pictures import Picture, least_line
from support import (Case, ahead_pairs, all_events, full_picture, grid, is_event_of, is_int, is_listy, junk, line_fault,
                     next_to, small_pictures, talkative_pictures, try_lines, variants, walk)

PICTURE = Picture([[("do", "a"), ("say", 5, 1, "x")], [("hear", 5), ("do", "b")], [("do", "c")]])


def try_chains(rows, first, second):
    """All chains from first to second."""
    found, waiting = [], [[first]]
    while waiting:
        path = waiting.pop()
        for event in all_events(rows):
            if next_to(rows, path[-1], event):
                waiting.append(path + [event])
        if len(path) > 1 and path[-1] == second:
            found.append(path)
    return found


def judge_chain(rows, first, second, value):
    if not is_listy(value) or len(value) < 2 or not all(is_event_of(rows, event) for event in value):
        return False
    ends = value[0] == first and value[-1] == second
    return ends and all(next_to(rows, one, other) for one, other in zip(value, value[1:]))


def apply_way(rows, line, value):
    """The line behind these exchanges; None where one of them cannot be done."""
    if not is_listy(value):
        return None
    line = list(line)
    for k in value:
        if not is_int(k) or k not in try_exchanges(rows, line):
            return None
        line[k:k + 2] = [line[k + 1], line[k]]
    return line


def try_exchanges(rows, line):
    events = walk(rows, line)[1]
    found = []
    for k, (one, other) in enumerate(zip(events, events[1:])):
        if one[0] != other[0] and not next_to(rows, one, other):
            found.append(k)
    return found


def turned_pairs(rows, one, other):
    """How many pairs of events stand in the other sequence in the other line."""
    first, second = walk(rows, one)[1], walk(rows, other)[1]
    return sum(second.index(a) > second.index(b) for k, a in enumerate(first) for b in first[k + 1:])


class TestExamples(Case):
    def test_the_document(self):
        self.assertEqual(self.ask(chain, picture=PICTURE, first=(0, 0), second=(1, 1)),
                         [(0, 0), (0, 1), (1, 0), (1, 1)])
        self.assertEqual(self.ask(clock, picture=PICTURE, event=(1, 0)), (2, 1, 0))
        self.assertEqual(self.ask(line_against, picture=PICTURE, first=(0, 1), second=(2, 0)), [0, 2, 0, 1, 1])
        self.assertEqual(least_line(PICTURE), [0, 0, 1, 1, 2])


class TestAhead(Case):
    def test_by_trying_all(self):
        for picture in small_pictures():
            rows = picture.rows()
            pairs = ahead_pairs(rows)
            for first in picture.events():
                for second in picture.events():
                    told = self.yes_or_no(is_ahead, picture=picture, first=first, second=second)
                    self.assertIs(told, (first, second) in pairs)

    def test_clocks(self):
        for picture in small_pictures():
            pairs = ahead_pairs(picture.rows())
            for event in picture.events():
                count = [0] * picture.houses
                for one in picture.events():
                    count[one[0]] += one == event or (one, event) in pairs
                self.assertEqual(self.ask(clock, picture=picture, event=event), tuple(count))

    def test_at_the_limits(self):
        picture = full_picture()
        pairs = ahead_pairs(picture.rows())
        self.assertGreater(len(pairs), 1000)
        for first in picture.events()[::3]:
            for second in picture.events():
                self.assertIs(is_ahead(picture, first, second), (first, second) in pairs)
                told = chain(picture, first, second)
                self.assertIs(told is not None, (first, second) in pairs)
                if told is not None:
                    self.assertIs(judge_chain(picture.rows(), first, second, told), True)

    def test_ahead_or_otherwise(self):
        for picture in small_pictures():
            for first in picture.events():
                for second in picture.events():
                    if first != second:
                        told = chain(picture, first, second)
                        line = line_against(picture, first, second)
                        self.assertIs(told is None, line is not None)
                        self.assertIs(is_ahead(picture, first, second), told is not None)


class TestChains(Case):
    def test_the_first_of_the_shortest(self):
        for picture in small_pictures() + talkative_pictures():
            rows = picture.rows()
            for first in picture.events():
                for second in picture.events():
                    chains = try_chains(rows, first, second)
                    told = self.ask(chain, picture=picture, first=first, second=second)
                    self.assertEqual(told, min(chains, key=lambda path: (len(path), path)) if chains else None)

    def test_shortest_is_not_always_first(self):
        rows = [[("say", 0, 2, ""), ("do", ""), ("do", ""), ("say", 1, 1, "")], [("hear", 2), ("hear", 1)],
                [("hear", 0), ("say", 2, 1, "")]]
        told = chain(Picture(rows), (0, 0), (1, 1))
        self.assertEqual(told, [(0, 0), (0, 1), (0, 2), (0, 3), (1, 1)])
        rows[0].insert(1, ("do", ""))
        self.assertEqual(chain(Picture(rows), (0, 0), (1, 1)), [(0, 0), (2, 0), (2, 1), (1, 0), (1, 1)])

    def test_of_two_shortest_ones_the_first(self):
        rows = [[("hear", 0), ("say", 1, 1, "")], [("say", 0, 0, ""), ("do", ""), ("do", ""), ("hear", 1)]]
        self.assertEqual(chain(Picture(rows), (1, 0), (1, 3)), [(1, 0), (0, 0), (0, 1), (1, 3)])
        rows = [[("say", 0, 1, ""), ("do", ""), ("do", ""), ("hear", 1)], [("hear", 0), ("say", 1, 0, "")]]
        self.assertEqual(chain(Picture(rows), (0, 0), (0, 3)), [(0, 0), (0, 1), (0, 2), (0, 3)])

    def test_what_is_a_chain(self):
        for picture in small_pictures() + talkative_pictures(8):
            rows = picture.rows()
            for first in picture.events()[::2]:
                for second in picture.events():
                    asked = {"picture": picture, "first": first, "second": second}
                    for path in try_chains(rows, first, second):
                        self.assertIs(self.yes_or_no(is_chain, **asked, value=path), True)
                        self.assertIs(is_chain(picture, first, second, tuple(path)), True)
                        for value in variants(path):
                            self.assertIs(is_chain(picture, first, second, value),
                                          judge_chain(rows, first, second, value), value)
                    self.never(is_chain, [[], [first], [second], [first, first], ()], **asked)

    def test_any_value(self):
        for second in ((0, 1), (1, 1), (0, 0)):
            for value in junk():
                told = self.yes_or_no(is_chain, picture=PICTURE, first=(0, 0), second=second, value=value)
                self.assertIs(told, False, value)

    def test_longest(self):
        rows = [[("say", 0, 1, "")], [("hear", 0)]]
        for k in range(1, 60):
            rows[(k + 1) % 2].append(("say", k, k % 2, ""))
            rows[k % 2].append(("hear", k))
        picture = Picture(rows)
        self.assertEqual(len(picture), 120)
        last = (1, 59) if ("hear", 59) == picture[(1, 59)] else (0, 59)
        told = chain(picture, (0, 0), last)
        self.assertIs(is_chain(picture, (0, 0), last, told), True)


class TestLinesAgainst(Case):
    def test_by_trying_all(self):
        for picture in small_pictures():
            rows = picture.rows()
            lines = [(line, walk(rows, line)[1]) for line in try_lines(rows)]
            for first in picture.events():
                for second in picture.events():
                    right = [line for line, events in lines if events.index(second) < events.index(first)]
                    told = self.ask(line_against, picture=picture, first=first, second=second)
                    self.assertEqual(told, right[0] if right else None)

    def test_at_the_limits(self):
        picture = grid(6, 20)
        told = line_against(picture, (0, 0), (5, 19))
        self.assertEqual(told, [house for house in (1, 2, 3, 4, 5, 0) for _ in range(20)])
        self.assertIsNone(line_against(picture, (0, 3), (0, 3)))
        self.assertIsNone(line_against(picture, (0, 3), (0, 4)))


class TestEvents(Case):
    def test_wrong_events(self):
        for picture in (PICTURE, Picture([[]]), Picture([[("do", "")]])):
            rows = picture.rows()
            values = junk() + [value for event in picture.events() for value in variants(event)]
            for value in values:
                if is_event_of(rows, value):
                    continue
                told = {"value": value}
                self.refuse(InvalidEvent, told, clock, picture=picture, event=value)
                for function in (is_ahead, chain, line_against):
                    self.refuse(InvalidEvent, told, function, picture=picture, first=value, second=(9, 9))
                    for event in picture.events()[:2]:
                        self.refuse(InvalidEvent, told, function, picture=picture, first=event, second=value)
                        self.refuse(InvalidEvent, told, function, picture=picture, first=value, second=event)
                self.refuse(InvalidEvent, told, is_chain, picture=picture, first=value, second=(9, 9), value=None)
                for event in picture.events()[:2]:
                    self.refuse(InvalidEvent, told, is_chain, picture=picture, first=event, second=value, value=[])


class TestExchanges(Case):
    def test_by_trying_all(self):
        for picture in small_pictures():
            rows = picture.rows()
            for line in try_lines(rows)[::3]:
                told = self.ask(exchanges, picture=picture, line=line)
                self.assertEqual(told, try_exchanges(rows, line))
                self.assertEqual(exchanges(picture, tuple(line)), told)

    def test_what_comes_of_it_is_a_line(self):
        for picture in small_pictures():
            lines = try_lines(picture.rows())
            for line in lines[::5]:
                for k in exchanges(picture, line):
                    self.assertIn(line[:k] + [line[k + 1], line[k]] + line[k + 2:], lines)

    def test_none(self):
        self.assertEqual(exchanges(Picture([[], []]), []), [])
        self.assertEqual(exchanges(Picture([[("do", "")], []]), [0]), [])
        self.assertEqual(exchanges(Picture([[("say", 0, 1, "")], [("hear", 0)]]), [0, 1]), [])
        self.assertEqual(exchanges(Picture([[("say", 0, 1, "")], [("do", "")]]), [0, 1]), [0])


class TestWays(Case):
    def test_by_trying_all(self):
        for picture in small_pictures():
            rows = picture.rows()
            lines = try_lines(rows)
            for one in lines[::7]:
                for other in lines[::9] + [one]:
                    asked = {"picture": picture, "one": one, "other": other}
                    told = self.ask(way, **asked)
                    self.assertIs(type(told), list)
                    self.assertEqual(apply_way(rows, one, told), other)
                    self.assertEqual(len(told), turned_pairs(rows, one, other))
                    self.assertIs(self.yes_or_no(is_way, **asked, value=told), True)
                    self.assertIs(is_way(picture, tuple(one), tuple(other), tuple(told)), True)

    def test_what_is_a_way(self):
        for picture in small_pictures()[::2]:
            rows = picture.rows()
            lines = try_lines(rows)
            for one in lines[::11]:
                other = lines[-1]
                told = way(picture, one, other)
                there_and_back = way(picture, one, lines[0]) + way(picture, lines[0], other)
                for value in variants(told) + [there_and_back, [], ()] + variants(there_and_back):
                    self.assertIs(is_way(picture, one, other, value), apply_way(rows, one, value) == other, value)

    def test_any_value(self):
        line = [0, 0, 1, 1, 2]
        for value in junk():
            right = apply_way(PICTURE.rows(), line, value) == line
            self.assertIs(self.yes_or_no(is_way, picture=PICTURE, one=line, other=line, value=value), right, value)
        empty = Picture([[], []])
        for value in junk():
            self.assertIs(is_way(empty, [], [], value), value in ([], ()) and isinstance(value, (list, tuple)))

    def test_a_line_and_itself(self):
        line = least_line(PICTURE)
        self.assertEqual(way(PICTURE, line, line), [])
        self.assertIs(is_way(PICTURE, line, line, []), True)
        self.assertIs(is_way(PICTURE, line, line, [3, 3]), True)
        self.assertIs(is_way(PICTURE, line, line, [3]), False)

    def test_four_thousand_positions_and_more(self):
        picture = grid(6, 20)
        one = least_line(picture)
        line, steps, reached = list(one), 0, {}
        while steps < 4001:
            for k in range(len(line) - 1):
                if line[k] < line[k + 1] and steps < 4001:
                    line[k:k + 2] = [line[k + 1], line[k]]
                    steps += 1
                    reached[steps] = list(line)
        told = way(picture, one, reached[4000])
        self.assertEqual(len(told), 4000)
        self.assertIs(is_way(picture, one, reached[4000], told), True)
        self.refuse(TooMany, {"what": "positions", "limit": 4000}, way, picture=picture, one=one, other=reached[4001])
        self.refuse(TooMany, {"what": "positions", "limit": 4000}, way, picture=picture, one=one, other=one[::-1])
        self.assertIs(is_way(picture, one, one[::-1], told), False)
        more = told + way(picture, reached[4000], one[::-1])
        self.assertEqual(len(more), 6000)
        self.assertIs(is_way(picture, one, one[::-1], more), True)


class TestWrongLines(Case):
    def test_positions(self):
        for picture in small_pictures()[::3] + [PICTURE]:
            rows = picture.rows()
            lines = try_lines(rows)
            right = lines[0]
            for value in junk() + [value for line in (lines[0], lines[-1]) for value in variants(line)]:
                good, position = line_fault(rows, lines, value)
                if good:
                    continue
                told = {"position": position}
                self.refuse(InvalidLine, told, exchanges, picture=picture, line=value)
                self.refuse(InvalidLine, told, way, picture=picture, one=value, other=right)
                self.refuse(InvalidLine, told, way, picture=picture, one=right, other=value)
                self.refuse(InvalidLine, told, is_way, picture=picture, one=value, other=right, value=None)
                self.refuse(InvalidLine, told, is_way, picture=picture, one=right, other=value, value=None)

    def test_the_first_error(self):
        self.refuse(InvalidLine, {"position": 2}, way, picture=PICTURE, one=[0, 2, 1, 0, 1], other=[])
        self.refuse(InvalidLine, {"position": None}, way, picture=PICTURE, one=[], other=[0, 2, 1, 0, 1])
        self.refuse(InvalidLine, {"position": 0}, is_way, picture=PICTURE, one=[1, 2, 1, 0, 1], other=None, value=None)
        big = grid(6, 20)
        self.refuse(InvalidLine, {"position": 119}, way, picture=big, one=least_line(big)[::-1],
                    other=least_line(big)[:-1] + [6])
        self.refuse(InvalidLine, {"position": 20}, exchanges, picture=big, line=[0] * 120)


if __name__ == "__main__":
    unittest.main()

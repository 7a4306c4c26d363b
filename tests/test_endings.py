"""[48]: deeds, lines of a kind, places, ending and answering alike, exchanging pictures."""

import unittest

from oneshelf.endings import (are_unlike_answers, are_unlike_ends, do_answer_alike, do_end_alike, ends, is_exchanging,
                              line_end, not_exchanging, unlike_answers, unlike_ends)
from oneshelf.errors import InvalidLine, InvalidState, TooMany
from oneshelf.failures import NotOfKind
from oneshelf.kinds import Kind
from oneshelf.pictures import Picture, least_line
from support import (Case, Dice, full_picture, is_int, is_listy, junk, line_fault, some_rows, talkative_pictures,
                     try_lines, variants, walk)
from test_kinds import FLAG, some_calls, walk_calls

MANY = {"what": "places", "limit": 3000}
TWO_LINES = (do_end_alike, do_answer_alike, ends, unlike_ends, unlike_answers, is_exchanging, not_exchanging)


def some_kinds():
    """Calls of kinds with the calls "a" and "b" alone; some exchange at some states, some at all, some never."""
    found = [{"a": [(0, (k + 1) % 4) for k in range(4)], "b": [(0, (k + 2) % 4) for k in range(4)]},
             {"a": [(k, (k + 1) % 4) for k in range(4)], "b": [(0, k) for k in range(4)]},
             {"a": [(0, 0), (0, 0)], "b": [(0, 1), (0, 1)]}, {"a": [(0, 0), (1, 1)], "b": [(7, 1), (7, 1)]},
             {"a": [(5, 0)], "b": [(99, 0)]}, {"a": [(0, 1), (0, 2), (0, 2)], "b": [(1, 1), (1, 1), (1, 2)]},
             {"a": [(0, 1), (1, 1), (2, 0)], "b": [(0, 0), (0, 1), (0, 2)]}]
    for seed in range(9):
        dice = Dice(seed)
        states = 2 + dice.below(4)
        found.append({name: [(dice.below(2) * dice.below(2), dice.below(states)) for _ in range(states)]
                      for name in "ab"})
    return found


def cases(many=60):
    """Tuples of calls, a picture whose deeds are calls, and a state."""
    found, kinds = [], some_kinds()
    found.append((kinds[2], Picture([[("do", "a"), ("hear", 0), ("do", "a")], [("do", "b"), ("say", 0, 0, "")]]), 0))
    pictures = [Picture(some_rows(seed, 2 + seed % 3, 6 + seed % 2)) for seed in range(2000, 2030)]
    pictures += talkative_pictures(10) + [Picture([[]]), Picture([[], []]), Picture([[("say", 0, 1, "")], [("hear", 0)]])]
    pictures += [Picture([[("do", "a")], [("do", "b")], [("do", "a"), ("do", "b")]]), Picture([[("do", "a")]] * 3)]
    for k in range(40):
        dice = Dice(k)
        calls = kinds[7 + k % (len(kinds) - 7)]
        rows = [[("do", dice.one_of("ab")) for _ in range(1 + dice.below(2))] for _ in range(3 + k % 2)]
        found.append((calls, Picture(rows), dice.below(len(calls["a"]))))
    for k in range(many):
        calls = kinds[k % len(kinds)]
        found.append((calls, pictures[(k * 11) % len(pictures)], k % len(calls["a"])))
    return found


def along(calls, rows, state, line):
    """The answers of the deeds along a line, the state at its end, and the places on its way."""
    answers, places = {}, [((0,) * len(rows), state)]
    cuts, events = walk(rows, line)
    for cut, (house, place) in zip(cuts[1:], events):
        if rows[house][place][0] == "do":
            answers[house, place], state = calls[rows[house][place][1]][state]
        places.append((cut, state))
    return answers, state, places


def exchange(calls, state, one, other):
    (first, second), end = walk_calls(calls, state, [one, other])
    (second_first, first_later), other_end = walk_calls(calls, state, [other, one])
    return first == first_later and second == second_first and end == other_end


def try_bars(calls, rows, places):
    """The tuples of next deeds that do not exchange at these places, sorted."""
    found = []
    for cut, state in places:
        ready = [house for house in range(len(rows)) if cut[house] < len(rows[house])
                 and rows[house][cut[house]][0] == "do"]
        for one in ready:
            for other in ready:
                if one < other and not exchange(calls, state, rows[one][cut[one]][1], rows[other][cut[other]][1]):
                    found.append((cut, state, one, other))
    return sorted(found)


def judge_two(lines, told_of, value):
    """Whether a value is a tuple of two lines of which unlike things are told."""
    if type(value) is not tuple or len(value) != 2:
        return False
    for line in value:
        if not is_listy(line) or not all(is_int(house) for house in line) or list(line) not in lines:
            return False
    return told_of[tuple(value[0])] != told_of[tuple(value[1])]


class TestExamples(Case):
    def test_the_document(self):
        flag, both = Kind(FLAG), Picture([[("do", "set")], [("do", "get")]])
        self.assertEqual([self.ask(ends, kind=flag, picture=both, state=0), do_end_alike(flag, both, 0),
                          do_answer_alike(flag, both, 0), not_exchanging(flag, both, 0)],
                         [[1], True, False, ((0, 0), 0, 0, 1)])


class TestByTryingAll(Case):
    def test_all_lines(self):
        seen = set()
        for calls, picture, state in cases():
            kind, rows, passed = Kind(calls), picture.rows(), {}
            lines = try_lines(rows)
            told = {tuple(line): along(calls, rows, state, line) for line in lines}
            passed = {"kind": kind, "picture": picture, "state": state}
            for line in lines[::7]:
                answers, end = self.ask(line_end, **passed, line=line)
                self.assertEqual((answers, end), told[tuple(line)][:2])
                self.assertEqual(list(answers), sorted(answers))
                self.assertEqual(line_end(kind, picture, state, tuple(line)), (answers, end))
            right = sorted({end for _, end, _ in told.values()})
            alike = len({repr(sorted(answers.items())) for answers, _, _ in told.values()}) == 1
            places = {place for _, _, some in told.values() for place in some}
            bars = try_bars(calls, rows, places)
            self.assertEqual(self.ask(ends, **passed), right)
            self.assertIs(self.yes_or_no(do_end_alike, **passed), len(right) == 1)
            self.assertIs(self.yes_or_no(do_answer_alike, **passed), alike)
            self.assertEqual(self.ask(not_exchanging, **passed), bars[0] if bars else None)
            self.assertIs(self.yes_or_no(is_exchanging, **passed), not bars)
            self.assertTrue(bars or (alike and len(right) == 1))
            seen.add((len(right) == 1, alike, not bars))
            self.check_papers(passed, lines, told, len(right) == 1, alike)
        self.assertLessEqual({(True, True, True), (True, True, False), (True, False, False), (False, False, False),
                              (False, True, False)}, seen)

    def check_papers(self, passed, lines, told, end_alike, alike):
        of_ends = {line: told[line][1] for line in told}
        of_answers = {line: told[line][0] for line in told}
        for function, judge, told_of, none in ((unlike_ends, are_unlike_ends, of_ends, end_alike),
                                               (unlike_answers, are_unlike_answers, of_answers, alike)):
            value = self.ask(function, **passed)
            self.assertIs(value is None, none)
            values = [(lines[0], lines[-1]), (lines[-1], lines[0]), (lines[0], lines[0]), [lines[0], lines[-1]],
                      (tuple(lines[0]), tuple(lines[-1]))]
            if value is not None:
                self.assertIs(judge_two(lines, told_of, value), True)
                self.assertIs(self.yes_or_no(judge, **passed, value=value), True)
                values += variants(value)[:60]
            for other in values:
                self.assertIs(judge(**passed, value=other), judge_two(lines, told_of, other), other)

    def test_any_value(self):
        for calls, picture, state in cases(20)[2::4] + [(FLAG, Picture([[]]), 0)]:
            lines = try_lines(picture.rows())
            told = {tuple(line): along(calls, picture.rows(), state, line) for line in lines}
            for value in junk() + [([], []), (lines[0], lines[-1]), (lines[0], None), (lines[0], lines[-1], lines[0])]:
                for judge, at in ((are_unlike_answers, 0), (are_unlike_ends, 1)):
                    wanted = judge_two(lines, {line: told[line][at] for line in told}, value)
                    self.assertIs(self.yes_or_no(judge, kind=Kind(calls), picture=picture, state=state, value=value),
                                  wanted, value)


class TestEdges(Case):
    def test_no_deeds(self):
        for picture in (Picture([[]]), Picture([[], [], []]), Picture([[("say", 4, 1, "x")], [("hear", 4)]])):
            for calls in some_calls()[:5]:
                kind = Kind(calls)
                last = kind.states - 1
                self.assertEqual(ends(kind, picture, last), [last])
                self.assertIs(do_end_alike(kind, picture, last) and do_answer_alike(kind, picture, last), True)
                self.assertIs(is_exchanging(kind, picture, last), True)
                self.assertIsNone(unlike_ends(kind, picture, last))
                self.assertIsNone(unlike_answers(kind, picture, last))
                self.assertEqual(line_end(kind, picture, last, least_line(picture)), ({}, last))

    def test_calls_and_themselves(self):
        count, same = Kind({"a": [(k, (k + 1) % 4) for k in range(4)]}), Kind({"a": [(9, 1), (9, 0)]})
        two = Picture([[("do", "a")], [("do", "a")]])
        self.assertEqual(not_exchanging(count, two, 3), ((0, 0), 3, 0, 1))
        self.assertIs(do_end_alike(count, two, 3), True)
        self.assertEqual(unlike_answers(count, two, 3), unlike_answers(count, two, 3))
        self.assertIs(is_exchanging(same, two, 0), True)
        self.assertIsNone(unlike_answers(same, two, 0))

    def test_what_is_told_is_sorted(self):
        last, two = Kind({"a": [(0, 0), (0, 0)], "b": [(0, 1), (0, 1)]}), Picture([[("do", "a")], [("do", "b")]])
        self.assertEqual(ends(last, two, 0), [0, 1])
        self.assertEqual(ends(last, Picture([[("do", "b")], [("do", "a")]]), 1), [0, 1])
        # They bar one another only where house 0 is done and house 1 is not, or the other way round.
        kind = Kind({"a": [(0, 1), (0, 1), (0, 2)], "b": [(0, 2), (0, 1), (0, 2)], "c": [(0, 0), (5, 2), (0, 0)]})
        picture = Picture([[("do", "a"), ("do", "c")], [("do", "a"), ("do", "a"), ("do", "c")]])
        bars = not_exchanging(kind, picture, 0)
        self.assertEqual(bars, try_bars({name: [kind.after(k, name) for k in range(3)] for name in "abc"}, picture.rows(),
                                        {place for line in try_lines(picture.rows()) for place in along(
                                            {name: [kind.after(k, name) for k in range(3)] for name in "abc"},
                                            picture.rows(), 0, line)[2]})[0])

    def test_what_hears_bars_nothing(self):
        kind = Kind({"a": [(0, 0), (0, 0)], "b": [(0, 1), (0, 1)]})
        picture = Picture([[("do", "a"), ("say", 0, 1, "")], [("hear", 0), ("do", "b")]])
        self.assertIs(is_exchanging(kind, picture, 0), True)
        self.assertEqual(ends(kind, picture, 0), [1])
        self.assertEqual(line_end(kind, picture, 1, [0, 0, 1, 1]), ({(0, 0): 0, (1, 1): 0}, 1))

    def test_three_thousand_places(self):
        kind = Kind({"a": [(0, 0)]})
        for rows, many in (([[("do", "a")] * 29] + [[("do", "a")] * 9] * 2, 3000),
                           ([[("do", "a")] * 99, [("do", "a")] * 20], 2100),
                           ([[("do", "a")] * 4] * 4 + [[("do", "a")] * 3] + [[("do", "a")]], 5000),
                           ([[("do", "a")] * 59, [("do", "a")] * 50], 3060), ([[("do", "a")] * 20] * 6, 21 ** 6)):
            picture = Picture(rows)
            for function in TWO_LINES:
                if many > 3000:
                    self.refuse(TooMany, MANY, function, kind=kind, picture=picture, state=0)
                else:
                    function(kind, picture, 0)
            for judge in (are_unlike_ends, are_unlike_answers):
                for value in (None, (least_line(picture), least_line(picture))):
                    if many > 3000:
                        self.refuse(TooMany, MANY, judge, kind=kind, picture=picture, state=0, value=value)
                    else:
                        self.assertIs(judge(kind, picture, 0, value), False)
            line = least_line(picture)
            self.assertEqual(line_end(kind, picture, 0, line), ({event: 0 for event in picture.events()}, 0))

    def test_places_are_counted_with_their_states(self):
        kind = Kind({"a": [(0, 0), (0, 0)], "b": [(0, 1), (0, 1)]})
        rows = [[("do", "a"), ("do", "b")] * 14, [("do", "b"), ("do", "a")] * 35]
        self.refuse(TooMany, MANY, ends, kind=kind, picture=Picture(rows), state=0)
        self.assertEqual(ends(Kind({"a": [(0, 0)], "b": [(0, 0)]}), Picture(rows), 0), [0])

    def test_a_full_picture(self):
        picture = full_picture()
        kind = Kind({"a": [(k, (k + 1) % 8) for k in range(8)], "b": [(50, 7 - k) for k in range(8)]})
        line = least_line(picture)
        answers, end, _ = along({name: [kind.after(k, name) for k in range(8)] for name in "ab"}, picture.rows(), 5, line)
        self.assertEqual(line_end(kind, picture, 5, line), (answers, end))


class TestErrors(Case):
    def test_wrong_states(self):
        kind, picture = Kind(FLAG), Picture([[("do", "put")], [("do", "get")]])
        for value in junk() + [2]:
            if not (is_int(value) and value in (0, 1)):
                told = {"value": value}
                for function in TWO_LINES:
                    self.refuse(InvalidState, told, function, kind=kind, picture=picture, state=value)
                self.refuse(InvalidState, told, line_end, kind=kind, picture=picture, state=value, line=None)
                for judge in (are_unlike_ends, are_unlike_answers):
                    self.refuse(InvalidState, told, judge, kind=kind, picture=picture, state=value, value=None)

    def test_wrong_lines(self):
        kind = Kind(FLAG)
        for rows in ([[("do", "put"), ("say", 0, 1, "")], [("hear", 0)]], [[("do", "get")], [("do", "set")]], [[]]):
            lines = try_lines(rows)
            for value in junk() + variants(lines[0]) + [[1, 0, 0], [0, 1, 0], [0, 0, 0], [False, 0, 1], [0, True]]:
                good, position = line_fault(rows, lines, value)
                if not good:
                    self.refuse(InvalidLine, {"position": position}, line_end, kind=kind, picture=Picture(rows), state=0,
                                line=value)

    def test_deeds_that_are_no_calls(self):
        kind = Kind(FLAG)
        many = [[("do", "get")] * 20] * 5
        for rows, event in (([[("do", "put")]], (0, 0)), ([[("do", "get")], [("do", "")]], (1, 0)),
                            ([[("do", "set"), ("say", 0, 1, "put"), ("do", "get2")], [("do", "no")]], (0, 2)),
                            ([[("do", "get")], [("say", 0, 0, "")], [("do", "set"), ("do", "a")]], (2, 1)),
                            (many + [[("do", "nothing")]], (5, 0))):
            picture = Picture(rows)
            for function in TWO_LINES:
                self.refuse(NotOfKind, {"event": event}, function, kind=kind, picture=picture, state=1)
            line = least_line(picture)
            self.refuse(NotOfKind, {"event": event}, line_end, kind=kind, picture=picture, state=1, line=line)
            for judge in (are_unlike_ends, are_unlike_answers):
                for value in (None, (line, line)):
                    self.refuse(NotOfKind, {"event": event}, judge, kind=kind, picture=picture, state=0, value=value)
            self.refuse(InvalidLine, {"position": None}, line_end, kind=kind, picture=picture, state=1, line=line + [0])


if __name__ == "__main__":
    unittest.main()

"""[17], [18]: flags that stand perhaps, or surely, crossings, stretches, and lines past them."""

import itertools
import unittest

from oneshelf.errors import InvalidFlags
from oneshelf.flags import (are_crossings, are_stretches, crossings, is_line_past, line_past, perhaps, stretches,
                            surely)
from oneshelf.pictures import Picture, is_line
from support import (Case, Dice, ahead_pairs, full_picture, grid, is_int, is_listy, junk, line_fault, small_pictures,
                     some_rows, talkative_pictures, try_cuts, try_lines, variants, walk)

PICTURE = Picture([[("do", "a"), ("say", 5, 1, "x")], [("hear", 5), ("do", "b")], [("do", "c")]])
ASKED = (perhaps, crossings, surely, stretches, line_past)
JUDGES = (are_crossings, are_stretches, is_line_past)


class Tried:
    """What comes of trying all for a small picture."""

    def __init__(self, picture):
        self.picture, self.rows = picture, picture.rows()
        self.pairs, self.cuts = ahead_pairs(self.rows), try_cuts(self.rows)
        self.lines = try_lines(self.rows)
        self.passed = [set(walk(self.rows, line)[0]) for line in self.lines]

    def standing(self, flags):
        return [cut for cut in self.cuts if all(row[count] for row, count in zip(flags, cut))]

    def past(self, flags):
        standing = set(self.standing(flags))
        return [line for line, cuts in zip(self.lines, self.passed) if not cuts & standing]

    def are_crossings(self, flags, value):
        left = [[state for state, flag in enumerate(row) if flag] for row in flags]
        if not is_listy(value):
            return False
        for told in value:
            if type(told) is not tuple or len(told) != 4 or not all(is_int(part) for part in told):
                return False
            house, state, other, later = told
            if house not in range(len(left)) or other not in range(len(left)) or house == other:
                return False
            if left[house][:1] != [state] or left[other][:1] != [later]:
                return False
            if ((house, state), (other, later - 1)) not in self.pairs:
                return False
            left[house].pop(0)
        return any(not states for states in left)

    def are_stretches(self, flags, value):
        if type(value) is not tuple or len(value) != len(self.rows):
            return False
        for row, told in zip(flags, value):
            if type(told) is not tuple or len(told) != 2 or not all(is_int(part) for part in told):
                return False
            if not 0 <= told[0] <= told[1] < len(row) or not all(row[told[0]:told[1] + 1]):
                return False
        for one, other in itertools.permutations(range(len(value)), 2):
            begins, ends = value[one][0], value[other][1]
            if begins > 0 and ends < len(self.rows[other]):
                if ((one, begins - 1), (other, ends)) not in self.pairs:
                    return False
        return True

    def whole(self, flags):
        found = []
        for row in flags:
            near = [False] + list(row) + [False]
            found.append([(first, last) for first in range(len(row)) for last in range(first, len(row))
                          if all(row[first:last + 1]) and not near[first] and not near[last + 2]])
        return [told for told in itertools.product(*found) if self.are_stretches(flags, told)]


def some_flags(seed, rows):
    """Flags of a row, of few states to nearly all of them."""
    dice = Dice(seed)
    many = 1 + dice.below(4)
    return [[dice.below(5) < many for _ in range(len(row) + 1)] for row in rows]


def few_flags(seed, rows):
    """Flags of one or two states of each house."""
    dice = Dice(seed)
    found = [[False] * (len(row) + 1) for row in rows]
    for row in found:
        for _ in range(1 + dice.below(2)):
            row[dice.below(len(row))] = True
    return found


def plain_flags(rows, flag):
    return [[flag] * (len(row) + 1) for row in rows]


class TestExamples(Case):
    def test_the_document(self):
        flags = [[True, True, False], [False, True, True], [True, True]]
        self.assertIsNone(self.ask(perhaps, picture=PICTURE, flags=flags))
        told = self.ask(crossings, picture=PICTURE, flags=flags)
        self.assertIs(are_crossings(PICTURE, flags, told), True)
        self.assertIs(are_crossings(PICTURE, flags, [(0, 0, 1, 1), (0, 1, 1, 1)]), True)
        other = [[False, True, True], [True, False, False], [True, True]]
        self.assertEqual(self.ask(stretches, picture=PICTURE, flags=other), ((1, 2), (0, 0), (0, 1)))


class TestByTryingAll(Case):
    def look(self, tried, flags):
        asked = {"picture": tried.picture, "flags": flags}
        standing, past = tried.standing(flags), tried.past(flags)
        least = tuple(min(counts) for counts in zip(*standing)) if standing else None
        self.assertEqual(self.ask(perhaps, **asked), least)
        if standing:
            self.assertIn(least, standing)
        crossed = self.ask(crossings, **asked)
        self.assertIs(crossed is None, bool(standing))
        if crossed is not None:
            self.assertIs(type(crossed), list)
            self.assertIs(tried.are_crossings(flags, crossed), True)
            self.assertIs(self.yes_or_no(are_crossings, **asked, value=crossed), True)
        self.assertIs(self.yes_or_no(surely, **asked), not past)
        whole = tried.whole(flags)
        told = self.ask(stretches, **asked)
        self.assertEqual(told, min(whole) if whole else None)
        self.assertIs(told is None, bool(past))
        line = self.ask(line_past, **asked)
        self.assertIs(line is None, not past)
        if past:
            self.assertIn(line, past)
            self.assertIs(self.yes_or_no(is_line_past, **asked, value=line), True)
        else:
            self.assertIs(self.yes_or_no(are_stretches, **asked, value=told), True)
        return standing, past, crossed, told, line

    def test_small_pictures(self):
        seen = set()
        for number, picture in enumerate(small_pictures()):
            tried = Tried(picture)
            for seed in range(25):
                told = self.look(tried, some_flags(number * 100 + seed, tried.rows))
                seen.add((bool(told[0]), bool(told[1])))
            self.look(tried, plain_flags(tried.rows, False))
            self.look(tried, plain_flags(tried.rows, True))
        self.assertEqual(seen, {(False, True), (True, True), (True, False)})

    def test_all_flags_of_two_houses(self):
        picture = Picture([[("say", 0, 1, ""), ("hear", 1)], [("say", 1, 0, ""), ("hear", 0)]])
        tried = Tried(picture)
        for bits in itertools.product([False, True], repeat=6):
            self.look(tried, [list(bits[:3]), list(bits[3:])])

    def test_all_flags_of_three_houses(self):
        picture = Picture([[("say", 0, 1, ""), ("say", 1, 2, "")], [("hear", 0), ("say", 2, 2, "")],
                           [("hear", 2), ("hear", 1)]])
        tried = Tried(picture)
        for bits in itertools.product([False, True], repeat=9):
            self.look(tried, [list(bits[:3]), list(bits[3:6]), list(bits[6:])])

    def test_talkative_pictures(self):
        seen = set()
        for number, picture in enumerate(talkative_pictures()):
            tried = Tried(picture)
            for seed in range(12):
                told = self.look(tried, some_flags(number * 50 + seed, tried.rows))
                more = self.look(tried, few_flags(number * 50 + seed, tried.rows))
                seen |= {(bool(part[0]), bool(part[1]), bool(part[2])) for part in (told, more)}
        self.assertEqual(seen, {(True, True, False), (True, False, False), (False, True, True), (False, True, False)})

    def test_all_and_none(self):
        for picture in small_pictures() + [full_picture(), grid(6, 20), grid(1, 120)]:
            rows = picture.rows()
            every, none = plain_flags(rows, True), plain_flags(rows, False)
            self.assertEqual(perhaps(picture, every), (0,) * picture.houses)
            self.assertIsNone(crossings(picture, every))
            self.assertIs(surely(picture, every), True)
            self.assertEqual(stretches(picture, every), tuple((0, len(row)) for row in rows))
            self.assertIsNone(line_past(picture, every))
            self.assertIsNone(perhaps(picture, none))
            self.assertIs(are_crossings(picture, none, []), True)
            self.assertIs(are_crossings(picture, none, crossings(picture, none)), True)
            self.assertIs(surely(picture, none), False)
            self.assertIsNone(stretches(picture, none))
            self.assertIs(is_line_past(picture, none, line_past(picture, none)), True)

    def test_a_house_without_events(self):
        picture = Picture([[], [("do", "a")]])
        self.assertEqual(perhaps(picture, [[True], [False, True]]), (0, 1))
        self.assertIs(surely(picture, [[True], [False, True]]), True)
        self.assertEqual(stretches(picture, [[True], [False, True]]), ((0, 0), (1, 1)))
        self.assertIsNone(perhaps(picture, [[False], [True, True]]))
        self.assertEqual(line_past(picture, [[False], [True, True]]), [1])
        empty = Picture([[], []])
        self.assertEqual(line_past(empty, [[True], [False]]), [])
        self.assertIs(is_line_past(empty, [[True], [False]], []), True)
        self.assertIs(is_line_past(empty, [[True], [True]], []), False)

    def test_at_the_limits(self):
        for number, picture in enumerate((full_picture(), grid(6, 20), Picture(some_rows(77, 5, 120)))):
            rows = picture.rows()
            for seed in range(20):
                flags = some_flags(seed + number, rows)
                low = perhaps(picture, flags)
                told = crossings(picture, flags)
                self.assertIs(low is None, told is not None)
                if told is not None:
                    self.assertIs(are_crossings(picture, flags, told), True)
                else:
                    self.assertTrue(all(row[count] for row, count in zip(flags, low)))
                line, whole = line_past(picture, flags), stretches(picture, flags)
                self.assertIs(line is None, whole is not None)
                self.assertIs(surely(picture, flags), whole is not None)
                if line is None:
                    self.assertIs(are_stretches(picture, flags, whole), True)
                else:
                    self.assertIs(is_line(picture, line), True)
                    self.assertIs(is_line_past(picture, flags, line), True)
                    self.assertFalse(any(all(row[count] for row, count in zip(flags, cut))
                                         for cut in walk(rows, line)[0]))


class TestJudges(Case):
    def test_crossings(self):
        for number, picture in enumerate(small_pictures() + talkative_pictures()):
            tried = Tried(picture)
            for seed in range(8):
                flags = few_flags(number * 31 + seed, tried.rows)
                told = crossings(picture, flags)
                for value in variants(told or []) + [[], ()]:
                    self.assertIs(are_crossings(picture, flags, value), tried.are_crossings(flags, value), value)
                self.wander(tried, flags, Dice(seed))

    def wander(self, tried, flags, dice):
        """Crossings found in whatever sequence, and each beginning of them."""
        houses, found, going = range(tried.picture.houses), [], True
        while going:
            left = [[state for state, flag in enumerate(row) if flag] for row in flags]
            for house, *_ in found:
                left[house].pop(0)
            more = [(one, left[one][0], other, left[other][0]) for one in houses for other in houses
                    if left[one] and left[other] and
                    ((one, left[one][0]), (other, left[other][0] - 1)) in tried.pairs and one != other]
            self.assertIs(are_crossings(tried.picture, flags, found), any(not states for states in left))
            going = bool(more)
            if more:
                found.append(dice.one_of(more))

    def test_stretches(self):
        for number, picture in enumerate(small_pictures() + talkative_pictures()):
            tried = Tried(picture)
            for seed in range(6):
                flags = (few_flags if seed % 2 else some_flags)(number * 37 + seed, tried.rows)
                spans = [[(first, last) for first in range(len(row)) for last in range(len(row))] for row in flags]
                for value in list(itertools.product(*spans))[:300]:
                    right = tried.are_stretches(flags, value)
                    self.assertIs(are_stretches(picture, flags, value), right)
                    if right:
                        self.assertIs(surely(picture, flags), True)
                told = stretches(picture, flags)
                for value in variants(told if told else tuple((0, 0) for _ in flags)):
                    self.assertIs(are_stretches(picture, flags, value), tried.are_stretches(flags, value), value)

    def test_lines_past(self):
        for number, picture in enumerate(small_pictures()):
            tried = Tried(picture)
            for seed in range(4):
                flags = some_flags(number * 41 + seed, tried.rows)
                past = tried.past(flags)
                for line in tried.lines[::5]:
                    self.assertIs(is_line_past(picture, flags, line), line in past)
                for value in variants(tried.lines[-1]):
                    right = line_fault(tried.rows, tried.lines, value)[0] and list(value) in past
                    self.assertIs(is_line_past(picture, flags, value), right, value)

    def test_any_value(self):
        for picture in (PICTURE, Picture([[]]), Picture([[], []])):
            tried = Tried(picture)
            for flags in (plain_flags(tried.rows, True), plain_flags(tried.rows, False)):
                past = tried.past(flags)
                for value in junk():
                    told = [self.yes_or_no(judge, picture=picture, flags=flags, value=value) for judge in JUDGES]
                    right = line_fault(tried.rows, tried.lines, value)[0] and list(value) in past
                    self.assertEqual(told, [tried.are_crossings(flags, value), tried.are_stretches(flags, value),
                                            right], value)


class TestWrongFlags(Case):
    def wrong(self, rows):
        right = [[True, False] * len(row) for row in rows]
        right = [(row * 2 + [True])[:len(told) + 1] for row, told in zip(right, rows)]
        values = junk() + variants(right)
        return [value for value in values if not (
            is_listy(value) and len(value) == len(rows) and
            all(is_listy(row) and len(row) == len(told) + 1 and all(type(flag) is bool for flag in row)
                for row, told in zip(value, rows)))]

    def test_refused(self):
        for picture in (PICTURE, Picture([[("do", "")]]), grid(6, 2), Picture([[], []])):
            for value in self.wrong(picture.rows()):
                for function in ASKED:
                    self.refuse(InvalidFlags, {"value": value}, function, picture=picture, flags=value)
                for function in JUDGES:
                    self.refuse(InvalidFlags, {"value": value}, function, picture=picture, flags=value, value=None)

    def test_lists_and_tuples(self):
        flags = [[True, True, False], [False, True, True], [True, True]]
        same = tuple(tuple(row) for row in flags)
        for function in ASKED:
            self.assertEqual(function(PICTURE, flags), function(PICTURE, same))
        self.assertEqual(flags, [[True, True, False], [False, True, True], [True, True]])


if __name__ == "__main__":
    unittest.main()

"""[4], [41], [46]: tables, melts and their results, what parts tables, soaked pictures."""

import itertools
import unittest

from oneshelf.errors import InvalidCut, InvalidGifts, InvalidMelt, InvalidTable, InvalidValue, InvalidValues
from oneshelf.joins import Table, heard, is_melt, is_parting, melts, parting, result, soaked
from oneshelf.pictures import Picture
from support import (Case, Dice, all_events, is_int, is_listy, junk, said_by, small_pictures, talkative_pictures,
                     try_cuts, try_lines, variants)

LINE = [[0, 3, 5, 3, 5, 5], [3, 1, 4, 3, 4, 5], [5, 4, 2, 5, 4, 5], [3, 3, 5, 3, 5, 5], [5, 4, 4, 5, 4, 5],
        [5, 5, 5, 5, 5, 5]]


def rows_of_sets(sets):
    """The rows of the table in which the join of two of these sets is their union."""
    return [[sets.index(one | other) for other in sets] for one in sets]


def melting_rows(many=60):
    """Rows of tables that melt, of one to seven values: sets with their unions, in some sequence."""
    found, seed = [[[0]], [[0, 1], [1, 1]], [[0, 0], [0, 1]], [list(row) for row in LINE]], 0
    found.append([[max(one, other) for other in range(7)] for one in range(7)])
    found.append(rows_of_sets([frozenset(some) for k in range(3) for some in itertools.combinations("abc", 3 - k)]))
    found.append(rows_of_sets([frozenset(some) for some in ("ab", "bc", "ac", "abc", "a", "b", "c")]))
    found.append(rows_of_sets([frozenset(some) for some in ("abcd", "", "ab")]))
    while len(found) < many:
        seed += 1
        dice = Dice(seed)
        sets = {frozenset(sign for sign in "abcd" if dice.below(2)) for _ in range(2 + dice.below(4))}
        while not all(one | other in sets for one in sets for other in sets):
            sets |= {one | other for one in sets for other in sets}
        listed = sorted(sets, key=sorted)
        for k in range(len(listed)):
            at = dice.below(len(listed))
            listed[k], listed[at] = listed[at], listed[k]
        if len(listed) <= 7:
            found.append(rows_of_sets(listed))
    return found


def other_rows(many=40):
    """Rows of tables of which most do not melt, some only for one of the three equations."""
    found = [[[1, 1], [1, 1]], [[0, 1], [0, 1]], [[0, 0], [1, 1]], [[0, 2, 0], [2, 1, 1], [0, 1, 2]]]
    for seed in range(many):
        dice = Dice(seed)
        size = 1 + seed % 7
        rows = [list(row) for row in melting_rows()[seed % 60]] if seed % 2 else \
            [[dice.below(size) for _ in range(size)] for _ in range(size)]
        rows[dice.below(len(rows))][dice.below(len(rows))] = dice.below(len(rows))
        found.append(rows)
    return found


def judge_rows(rows):
    """Whether rows make a table, and the position that is told."""
    if not is_listy(rows) or not 1 <= len(rows) <= 7:
        return False, None
    for position, row in enumerate(rows):
        if not is_listy(row) or len(row) != len(rows) or not all(is_int(x) and 0 <= x < len(rows) for x in row):
            return False, position
    return True, None


def values_of(melt):
    """The values of a melt, one behind another; None among them for what is none."""
    if type(melt) is tuple and len(melt) == 2:
        return values_of(melt[0]) + values_of(melt[1])
    return [melt if is_int(melt) else None]


def judge_melt(size, value):
    found = values_of(value)
    return len(found) <= 40 and all(x is not None and 0 <= x < size for x in found)


def come_of(rows, melt):
    return rows[come_of(rows, melt[0])][come_of(rows, melt[1])] if type(melt) is tuple else melt


def judge_parting(rows, value):
    if type(value) is not tuple or len(value) != 2 or not all(judge_melt(len(rows), melt) for melt in value):
        return False
    same = set(values_of(value[0])) == set(values_of(value[1]))
    return same and come_of(rows, value[0]) != come_of(rows, value[1])


def does_melt(rows):
    size = range(len(rows))
    return (all(rows[x][x] == x for x in size) and all(rows[x][y] == rows[y][x] for x in size for y in size)
            and all(rows[rows[x][y]][z] == rows[x][rows[y][z]] for x in size for y in size for z in size))


def some_melts(size, values):
    """All melts of so many values, of a table of so many."""
    if values == 1:
        return list(range(size))
    return [(one, other) for k in range(1, values) for one in some_melts(size, k)
            for other in some_melts(size, values - k)]


def row_of(values):
    """A melt of values, one behind another."""
    melt = values[0]
    for value in values[1:]:
        melt = (melt, value)
    return melt


class TestTable(Case):
    def test_parts(self):
        for rows in melting_rows(30) + other_rows(20):
            for passed in (rows, tuple(tuple(row) for row in rows)):
                table = Table(passed)
                self.assertEqual(self.ask(table.rows), rows)
                self.assertEqual(len(table), len(rows))
                self.assertEqual(repr(table), f"Table({rows})")
                self.assertEqual(eval(repr(table)), table)
            for x in range(len(rows)):
                for y in range(len(rows)):
                    self.assertEqual(self.ask(table.at, x=x, y=y), rows[x][y])
        self.assertEqual(repr(Table([[0, 1], [1, 1]])), "Table([[0, 1], [1, 1]])")

    def test_wrong_rows(self):
        values = junk() + [[], [[0] * 8] * 8, [[1]], [[0, 1]], [[0, 1], [1]], [[0, 0], [0, 2]], [[0, 0], "00"],
                           [[True]], [[False]], [[0, 1], [1, True]], [[0, 1], None], [None, [0, 9]], [["0"]], [[-1]]]
        for rows in (LINE, [[0]], [[0, 1], [1, 1]], melting_rows()[4]):
            values += variants(rows)[:200]
        for value in values:
            good, position = judge_rows(value)
            if good:
                self.assertEqual(Table(value).rows(), [list(row) for row in value])
            else:
                self.refuse(InvalidTable, {"position": position}, Table, rows=value)

    def test_wrong_values(self):
        for rows in ([[0]], [[0, 1], [1, 1]], LINE):
            table = Table(rows)
            for value in junk() + [len(rows), len(rows) - 1]:
                if not (is_int(value) and 0 <= value < len(rows)):
                    self.refuse(InvalidValue, {"value": value}, table.at, x=value, y=0)
                    self.refuse(InvalidValue, {"value": value}, table.at, x=0, y=value)
                    self.refuse(InvalidValue, {"value": value}, table.at, x=value, y=99)

    def test_what_was_passed_is_changed(self):
        rows = [[0, 1], [1, 1]]
        table = Table(rows)
        rows[0][0] = 1
        rows.append([])
        table.rows()[1].clear()
        self.assertEqual(table.rows(), [[0, 1], [1, 1]])

    def test_equality(self):
        tables = [Table(rows) for rows in melting_rows(12) + other_rows(12)]
        for one in tables:
            for value in junk() + [one.rows()]:
                self.assertIs(one == value, False)
            for other in tables:
                self.assertIs(one == other, one.rows() == other.rows())
                self.assertIs(one != other, one.rows() != other.rows())


class TestMelts(Case):
    def test_results_of_few_values(self):
        for rows in ([[0, 1], [1, 1]], [[1, 0], [1, 1]], [[0, 2, 0], [2, 1, 1], [0, 1, 2]]):
            table = Table(rows)
            for many in (1, 2, 3, 4):
                for melt in some_melts(len(rows), many):
                    self.assertIs(is_melt(table, melt), True)
                    self.assertEqual(result(table, melt), come_of(rows, melt))
        self.assertEqual(self.ask(result, table=Table(LINE), melt=((0, 1), 2)), 5)

    def test_melting_by_trying_all(self):
        """That all melts of the same values have one result exactly if the table melts."""
        seen = set()
        for size, many in ((1, 4), (2, 4)):
            tried = some_melts(size, 1) + [melt for k in range(2, many + 1) for melt in some_melts(size, k)]
            for numbers in itertools.product(range(size), repeat=size * size):
                rows = [list(numbers[size * k:size * k + size]) for k in range(size)]
                results = {}
                for melt in tried:
                    results.setdefault(frozenset(values_of(melt)), set()).add(come_of(rows, melt))
                told = self.yes_or_no(melts, table=Table(rows))
                self.assertIs(told, all(len(some) == 1 for some in results.values()))
                seen.add(told)
        self.assertEqual(seen, {True, False})

    def test_parting(self):
        seen = set()
        for rows in melting_rows() + other_rows():
            table = Table(rows)
            told = self.ask(parting, table=table)
            self.assertIs(melts(table), does_melt(rows))
            self.assertIs(told is None, does_melt(rows))
            seen.add(told is None)
            if told is not None:
                self.assertIs(judge_parting(rows, told), True)
                self.assertIs(self.yes_or_no(is_parting, table=table, value=told), True)
        self.assertEqual(seen, {True, False})

    def test_one_equation_alone_is_broken(self):
        size = range(3)
        for broken in range(3):
            found = []
            for numbers in itertools.product(size, repeat=9):
                rows = [list(numbers[3 * k:3 * k + 3]) for k in range(3)]
                fine = (all(rows[x][x] == x for x in size),
                        all(rows[x][y] == rows[y][x] for x in size for y in size),
                        all(rows[rows[x][y]][z] == rows[x][rows[y][z]] for x in size for y in size for z in size))
                if fine == tuple(k != broken for k in range(3)):
                    found.append(rows)
            self.assertTrue(found)
            for rows in found[:12] + found[-12:]:
                self.assertIs(melts(Table(rows)), False)
                self.assertIs(judge_parting(rows, parting(Table(rows))), True)
                self.assertIs(is_parting(Table(rows), parting(Table(rows))), True)

    def test_what_is_one(self):
        for rows in other_rows(12) + melting_rows(5):
            table, found = Table(rows), parting(Table(rows))
            values = [(one, other) for one in some_melts(len(rows), 2)[:12] for other in some_melts(len(rows), 3)[::9][:12]]
            for value in values + (variants(found) + [found] if found else []):
                self.assertIs(is_parting(table, value), judge_parting(rows, value), value)
            for melt in ((0, 0), (0, (0, 0))):
                for value in variants(melt):
                    self.assertIs(is_melt(table, value), judge_melt(len(rows), value), value)
                    if judge_melt(len(rows), value):
                        self.assertEqual(result(table, value), come_of(rows, value))
                    else:
                        self.refuse(InvalidMelt, {"value": value}, result, table=table, melt=value)

    def test_any_value(self):
        for rows in ([[0]], [[0, 1], [0, 1]], LINE):
            table = Table(rows)
            for value in junk() + [((0, 0), 0), ((0, False), 0), ((0, 0), [0, 0]), ((0, 1), (1, 0)), (1, True)]:
                self.assertIs(self.yes_or_no(is_melt, table=table, value=value), judge_melt(len(rows), value), value)
                self.assertIs(self.yes_or_no(is_parting, table=table, value=value), judge_parting(rows, value), value)
                if not judge_melt(len(rows), value):
                    self.refuse(InvalidMelt, {"value": value}, result, table=table, melt=value)

    def test_forty_values_and_more(self):
        table = Table([[0, 1], [0, 1]])
        twin = 0
        for _ in range(5):
            twin = (twin, twin)
        forty, more = (twin, row_of([1] * 8)), (twin, row_of([1] * 9))
        for good, bad in ((forty, more), (row_of([0] * 39 + [1]), row_of([0] * 41)), ((1, row_of([0] * 39)), (more, 0))):
            self.assertIs(is_melt(table, good), True)
            self.assertEqual(result(table, good), come_of(table.rows(), good))
            self.assertIs(is_melt(table, bad), False)
            self.refuse(InvalidMelt, {"value": bad}, result, table=table, melt=bad)
            self.assertIs(is_parting(table, (good, bad)), False)
            self.assertIs(is_parting(table, (bad, good)), False)
        self.assertIs(is_parting(table, (forty, (1, 0))), True)
        self.assertIs(is_parting(table, ((1, row_of([0] * 39)), row_of([0] * 39 + [1]))), True)


def try_soaked(rows, joins, begins, gifts, line, cut):
    """The values of the houses and what they have heard, at a cut that a line passes."""
    done, now, known = [0] * len(rows), list(begins), [{value} for value in begins]
    then = {}
    for house in line:
        if done[house] == cut[house]:
            continue
        event = (house, done[house])
        what = rows[house][done[house]]
        if event in gifts:
            now[house] = joins[now[house]][gifts[event]]
            known[house] = known[house] | {gifts[event]}
        if what[0] == "hear":
            value, more = then[said_by(rows, what[1])]
            now[house] = joins[now[house]][value]
            known[house] = known[house] | more
        then[event] = (now[house], known[house])
        done[house] += 1
    return now, [sorted(some) for some in known]


def soakings(many=40):
    """Pictures with rows of tables, first values, and gifts; most tables do not melt."""
    found = []
    pictures = small_pictures()[:28] + talkative_pictures(20)
    tables = other_rows(30) + melting_rows(30)
    for k, picture in enumerate(pictures[:many + 8]):
        dice, joins = Dice(k), tables[(k * 7) % len(tables)]
        deeds = [event for event in picture.events() if picture[event][0] == "do"]
        gifts = {event: dice.below(len(joins)) for event in deeds[::-1] if dice.below(4)}
        found.append((picture, joins, [dice.below(len(joins)) for _ in range(picture.houses)], gifts))
    return found


class TestSoaked(Case):
    def test_by_trying_all(self):
        for picture, joins, begins, gifts in soakings():
            rows, table = picture.rows(), Table(joins)
            lines = try_lines(rows)
            for cut in try_cuts(rows)[::2]:
                line = [one for one in lines][len(cut) * 7 % len(lines)]
                values, known = try_soaked(rows, joins, begins, gifts, line, cut)
                told = {"table": table, "picture": picture, "begins": begins, "gifts": gifts, "cut": cut}
                self.assertEqual(self.ask(soaked, **told), values)
                self.assertEqual(self.ask(heard, **told), known)
                turned = {event: gifts[event] for event in list(gifts)[::-1]}
                self.assertEqual(soaked(table, picture, tuple(begins), turned, cut), values)

    def test_all_lines_tell_the_same(self):
        for picture, joins, begins, gifts in soakings()[:30]:
            rows = picture.rows()
            whole = tuple(len(row) for row in rows)
            values = soaked(Table(joins), picture, begins, gifts, whole)
            for line in try_lines(rows)[::5]:
                self.assertEqual(try_soaked(rows, joins, begins, gifts, line, whole)[0], values)

    def test_what_has_heard_the_same(self):
        for joins in melting_rows(20):
            for picture, _, begins, gifts in soakings():
                first = [value % len(joins) for value in begins]
                given = {event: gifts[event] % len(joins) for event in gifts}
                whole = tuple(len(row) for row in picture.rows())
                values = soaked(Table(joins), picture, first, given, whole)
                known = heard(Table(joins), picture, first, given, whole)
                for value, some in zip(values, known):
                    self.assertEqual(value, come_of(joins, row_of(some)))

    def test_the_own_value_stands_on_the_left(self):
        table = Table([[0, 0, 0], [1, 1, 1], [2, 2, 2]])
        other = Table([[0, 1, 2]] * 3)
        picture = Picture([[("do", "a"), ("say", 0, 1, "b"), ("do", "a")], [("hear", 0)]])
        gifts = {(0, 0): 1, (0, 2): 0}
        self.assertEqual(soaked(table, picture, [0, 2], gifts, (3, 1)), [0, 2])
        self.assertEqual(soaked(other, picture, [0, 2], gifts, (3, 1)), [0, 1])
        self.assertEqual(heard(other, picture, [0, 2], gifts, (3, 1)), [[0, 1], [0, 1, 2]])
        self.assertEqual(heard(other, picture, [2, 2], {}, (3, 1)), [[2], [2]])
        self.assertEqual(soaked(other, picture, [2, 0], gifts, (0, 0)), [2, 0])

    def test_errors(self):
        table = Table([[0, 1], [1, 1]])
        picture = Picture([[("do", "a"), ("say", 0, 1, "b")], [("hear", 0), ("do", "c")]])
        good = {"table": table, "picture": picture, "begins": [0, 1], "gifts": {(0, 0): 1}, "cut": (2, 1)}
        for function in (soaked, heard):
            for value in junk() + [[0], [0, 0, 0], [0, 2], [2, 0], [0, True], [False, 0], (0, None), {0: 0, 1: 0}]:
                if not is_listy(value) or len(value) != 2:
                    self.refuse(InvalidValues, {"position": None}, function, **{**good, "begins": value, "gifts": 0})
                elif not all(is_int(x) and x in (0, 1) for x in value):
                    wrong = [k for k in (0, 1) if not (is_int(value[k]) and value[k] in (0, 1))]
                    self.refuse(InvalidValues, {"position": wrong[0]}, function, **{**good, "begins": value, "cut": 0})
                else:
                    function(**{**good, "begins": value})
            for value in [None, 0, "a", [], [((0, 0), 1)], ((0, 0),), {(0, 1): 1}, {(1, 0): 1}, {(0, 0): 2}, {(0, 0): True},
                          {(0, 0): None}, {(0, False): 1}, {(False, 0): 1}, {0: 1}, {(0,): 1}, {(0, 2): 0}, {(2, 0): 0},
                          {None: 0}, {(0, 0): 1, (1, 0): 0}, {(0, 0): 0, (1, 1): -1}, {"a": 1}, {(0, 0, 0): 0}, {0, 1}]:
                self.refuse(InvalidGifts, {"value": value}, function, **{**good, "gifts": value, "cut": None})
            for value in junk() + [(1, 1), (3, 0), [2, 1], (2, 1, 0), (2, True), (0, 1), (2, 3)]:
                if not (type(value) is tuple and len(value) == 2 and all(is_int(x) for x in value)
                        and value in try_cuts(picture.rows())):
                    self.refuse(InvalidCut, {"value": value}, function, **{**good, "cut": value})
            function(table, picture, [0, 0], {}, (0, 0))

    def test_no_deeds(self):
        picture = Picture([[("say", 3, 1, "")], [("hear", 3)]])
        self.assertEqual(soaked(Table(LINE), picture, [0, 2], {}, (1, 1)), [0, 5])
        self.assertEqual(heard(Table(LINE), picture, [0, 2], {}, (1, 1)), [[0], [0, 2]])
        self.assertEqual(all_events(picture.rows()), picture.events())
        self.assertEqual(soaked(Table([[0]]), Picture([[]]), [0], {}, (0,)), [0])


if __name__ == "__main__":
    unittest.main()

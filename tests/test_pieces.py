"""[4], [42], [43], [44], [45]: joins, pieces, what is needed and free, what sends, showers and thresholds."""

import itertools
import unittest

from oneshelf.errors import InvalidPiece, InvalidValue, InvalidValues
from oneshelf.failures import NotMelting
from oneshelf.joins import Table
from oneshelf.pieces import (are_firm, are_unlike_showers, does_send, fewest, free_lists, is_clear, is_free, is_lapse,
                             is_prime, join, lapse, missing, needed, pieces, read_of, unlike_showers)
from support import Case, Dice, is_int, is_listy, junk, variants
from test_joins import LINE, does_melt, melting_rows, other_rows


def come_of(rows, values):
    found = values[0]
    for value in values[1:]:
        found = rows[found][value]
    return found


def within(rows, one, other):
    return rows[one][other] == other


def try_pieces(rows):
    size = range(len(rows))
    return [v for v in size if not any(rows[x][y] == v for x in size for y in size if x != v and y != v)]


def parts_of(values):
    """All lists of some of these values, perhaps none."""
    return [list(some) for many in range(len(values) + 1) for some in itertools.combinations(values, many)]


def makes(rows, listed, value):
    return len(listed) > 0 and come_of(rows, listed) == value


def try_free(rows, value):
    """All free lists of pieces that make a value, sorted."""
    found = [listed for listed in parts_of(try_pieces(rows)) if makes(rows, listed, value)]
    return sorted(listed for listed in found
                  if not any(set(other) < set(listed) for other in found))


def try_needed(rows, value):
    inner = [piece for piece in try_pieces(rows) if within(rows, piece, value)]
    return [piece for piece in inner if not makes(rows, [other for other in inner if other != piece], value)]


def try_prime(rows, piece):
    size = range(len(rows))
    return all(within(rows, piece, x) or within(rows, piece, y)
               for x in size for y in size if within(rows, piece, rows[x][y]))


def try_missing(rows, v, u):
    new = [piece for piece in try_pieces(rows) if within(rows, piece, u) and not within(rows, piece, v)]
    return [piece for piece in new if not any(within(rows, piece, other) for other in new if other != piece)]


def sends(rows, v, u, listed):
    return come_of(rows, [v] + list(listed)) == rows[v][u]


def is_list_of_pieces(rows, value):
    if not is_listy(value) or not all(is_int(piece) and piece in try_pieces(rows) for piece in value):
        return False
    return len(set(value)) == len(value)


def judge_lapse(rows, value):
    if type(value) is not tuple or len(value) != 3:
        return False
    v, u, listed = value
    if not (is_int(v) and 0 <= v < len(rows) and is_int(u) and 0 <= u < len(rows)):
        return False
    if not is_list_of_pieces(rows, listed) or not sends(rows, v, u, listed):
        return False
    return not set(try_missing(rows, v, u)) <= set(listed)


def try_read(rows, thresholds, shower):
    for k in range(1, len(shower) + 1):
        state = come_of(rows, shower[:k])
        inner = sorted(value for value in thresholds if within(rows, value, state))
        if inner:
            return inner
    return None


def judge_showers(rows, thresholds, value):
    if type(value) is not tuple or len(value) != 2:
        return False
    for shower in value:
        if not is_listy(shower) or not shower or not all(is_int(x) and 0 <= x < len(rows) for x in shower):
            return False
    if set(value[0]) != set(value[1]) or come_of(rows, value[0]) == come_of(rows, list(range(len(rows)))):
        return False
    return try_read(rows, thresholds, value[0]) != try_read(rows, thresholds, value[1])


def some_thresholds(rows):
    """Lists of unlike values: none, each one, all, and some."""
    size = list(range(len(rows)))
    found = [[], size, tuple(size[::-1])] + [[value] for value in size]
    dice = Dice(len(rows) + sum(rows[0]))
    for _ in range(8):
        some = [value for value in size if dice.below(3) == 0]
        found.append(some[::-1])
    return found


def unmelting():
    return [Table(rows) for rows in other_rows() if not does_melt(rows)]


class TestExamples(Case):
    def test_the_document(self):
        table = Table(LINE)
        self.assertEqual([pieces(table), needed(table, 5), free_lists(table, 5), is_clear(table)],
                         [[0, 1, 2], [0, 2], [[0, 2]], True])
        self.assertEqual([is_prime(table, 1), missing(table, 0, 5), fewest(table, 0, 5), is_lapse(table, (0, 5, [2]))],
                         [False, [1, 2], [2], True])


class TestPieces(Case):
    def test_by_trying_all(self):
        seen = set()
        for rows in melting_rows():
            table, right = Table(rows), try_pieces(rows)
            self.assertEqual(self.ask(pieces, table=table), right)
            for value in range(len(rows)):
                free = try_free(rows, value)
                self.assertTrue(free)
                self.assertEqual(self.ask(needed, table=table, value=value), try_needed(rows, value))
                self.assertEqual(self.ask(free_lists, table=table, value=value), free)
                for listed in parts_of(right):
                    for passed in (listed, tuple(listed), listed[::-1]):
                        self.assertIs(is_free(table, value, passed), list(passed) in free)
            clear = all(len(try_free(rows, value)) == 1 for value in range(len(rows)))
            self.assertIs(self.yes_or_no(is_clear, table=table), clear)
            for piece in right:
                self.assertIs(self.yes_or_no(is_prime, table=table, piece=piece), try_prime(rows, piece))
            seen.add((clear, all(try_prime(rows, piece) for piece in right)))
        self.assertEqual(seen, {(True, True), (True, False), (False, False)})

    def test_joins(self):
        for k, rows in enumerate(melting_rows()):
            table, dice = Table(rows), Dice(k)
            for many in (1, 2, 3, 9):
                values = [dice.below(len(rows)) for _ in range(many)]
                self.assertEqual(self.ask(join, table=table, values=values), come_of(rows, values))
                self.assertEqual(join(table, tuple(values[::-1])), come_of(rows, values))

    def test_tables_of_one_value_and_of_seven(self):
        one = Table([[0]])
        self.assertEqual([pieces(one), needed(one, 0), free_lists(one, 0), is_clear(one), is_prime(one, 0)],
                         [[0], [0], [[0]], True, True])
        self.assertEqual([missing(one, 0, 0), fewest(one, 0, 0), lapse(one), are_firm(one, [0])], [[], [], None, True])
        self.assertIs(is_free(one, 0, []), False)
        self.assertIs(does_send(one, 0, 0, []), True)
        line = Table([[max(one, other) for other in range(7)] for one in range(7)])
        self.assertEqual([pieces(line), needed(line, 6), free_lists(line, 6)], [list(range(7)), [6], [[6]]])
        self.assertEqual([missing(line, 2, 5), fewest(line, 2, 5), fewest(line, 5, 2)], [[5], [5], []])

    def test_what_is_free(self):
        for rows in melting_rows(8):
            table = Table(rows)
            for value in range(len(rows)):
                free = try_free(rows, value)
                for listed in junk() + variants(free[0]) + variants(free[-1]):
                    good = is_listy(listed) and all(is_int(piece) for piece in listed) and list(listed) in free
                    self.assertIs(self.yes_or_no(is_free, table=table, value=value, listed=listed), good, listed)


class TestSending(Case):
    def test_by_trying_all(self):
        for rows in melting_rows(24):
            table, size = Table(rows), range(len(rows))
            lists = parts_of(try_pieces(rows))
            for v in size:
                for u in size:
                    self.assertEqual(self.ask(missing, table=table, v=v, u=u), try_missing(rows, v, u))
                    fit = [listed for listed in lists if sends(rows, v, u, listed)]
                    right = min(fit, key=lambda listed: (len(listed), listed))
                    self.assertEqual(self.ask(fewest, table=table, v=v, u=u), right)
                    for listed in lists:
                        self.assertIs(does_send(table, v, u, listed[::-1]), listed in fit)

    def test_what_sends(self):
        for rows in melting_rows(9):
            table = Table(rows)
            for v, u in {(0, len(rows) - 1), (len(rows) - 1, 0), (0, 0)}:
                for listed in junk() + variants(fewest(table, v, u)) + variants(try_pieces(rows)) + parts_of(
                        list(range(len(rows))))[:40]:
                    good = is_list_of_pieces(rows, listed) and sends(rows, v, u, listed)
                    self.assertIs(self.yes_or_no(does_send, table=table, v=v, u=u, listed=listed), good, listed)

    def test_lapses(self):
        seen = set()
        for rows in melting_rows():
            table = Table(rows)
            told = self.ask(lapse, table=table)
            self.assertIs(told is None, all(try_prime(rows, piece) for piece in try_pieces(rows)))
            seen.add(told is None)
            if told is not None:
                self.assertIs(judge_lapse(rows, told), True)
                self.assertIs(self.yes_or_no(is_lapse, table=table, value=told), True)
                self.assertIs(is_lapse(table, told[:2] + (tuple(told[2][::-1]),)), True)
                for value in variants(told):
                    self.assertIs(is_lapse(table, value), judge_lapse(rows, value), value)
        self.assertEqual(seen, {True, False})

    def test_all_lapses_of_small_tables(self):
        for rows in melting_rows(16):
            size = range(len(rows))
            found = [(v, u, listed) for v in size for u in size for listed in parts_of(try_pieces(rows))]
            right = [value for value in found if judge_lapse(rows, value)]
            for value in found:
                self.assertIs(is_lapse(Table(rows), value), value in right)
            self.assertIs(lapse(Table(rows)) is None, not right)

    def test_any_value(self):
        for rows in ([[0]], [[0, 1], [1, 1]], LINE):
            for value in junk() + [(0, 5, [2]), (0, 5, (2,)), [0, 5, [2]], (0, 5, [2, 2]), (0, 5, [2, 3]), (False, 5, [2]),
                                   (0, 5, [2, True]), (0, 9, [2]), (-1, 5, [2]), (0, 5, {2: 2}), (0, 5, None)]:
                self.assertIs(self.yes_or_no(is_lapse, table=Table(rows), value=value), judge_lapse(rows, value), value)


class TestShowers(Case):
    def test_reads(self):
        for k, rows in enumerate(melting_rows()):
            table, dice = Table(rows), Dice(k)
            for thresholds in some_thresholds(rows):
                for many in (1, 2, 4):
                    shower = [dice.below(len(rows)) for _ in range(many)]
                    told = self.ask(read_of, table=table, thresholds=thresholds, shower=shower)
                    self.assertEqual(told, try_read(rows, thresholds, shower))
                    self.assertEqual(read_of(table, thresholds, tuple(shower)), told)

    def test_firm_by_trying_all(self):
        """Showers of up to three values tell whether thresholds are firm."""
        seen = set()
        for rows in melting_rows(24):
            table, size = Table(rows), range(len(rows))
            showers = [list(some) for many in (1, 2, 3) for some in itertools.product(size, repeat=many)]
            groups = {}
            for shower in showers:
                if come_of(rows, shower) != come_of(rows, list(size)):
                    groups.setdefault(frozenset(shower), []).append(shower)
            for thresholds in some_thresholds(rows):
                right = all(len({repr(try_read(rows, thresholds, shower)) for shower in some}) == 1
                            for some in groups.values())
                self.assertIs(self.yes_or_no(are_firm, table=table, thresholds=thresholds), right)
                told = self.ask(unlike_showers, table=table, thresholds=thresholds)
                self.assertIs(told is None, right)
                seen.add((right, len(thresholds)))
                if told is not None:
                    self.assertIs(judge_showers(rows, thresholds, told), True)
                    self.assertIs(self.yes_or_no(are_unlike_showers, table=table, thresholds=thresholds, value=told),
                                  True)
        self.assertLessEqual({(True, 0), (True, 1), (True, 2), (False, 2), (False, 7)}, seen)

    def test_what_is_one(self):
        for rows in melting_rows(20):
            table, size = Table(rows), range(len(rows))
            for thresholds in some_thresholds(rows)[:12]:
                told = unlike_showers(table, thresholds)
                values = [(list(one), list(other)) for one in itertools.permutations(size, min(2, len(rows)))
                          for other in itertools.permutations(size, min(2, len(rows)))][:20]
                for value in values + (variants(told) if told else []):
                    self.assertIs(are_unlike_showers(table, thresholds, value),
                                  judge_showers(rows, thresholds, value), value)

    def test_any_value(self):
        for rows, thresholds in (([[0]], [0]), ([[0, 1], [1, 1]], [0, 1]), (LINE, [0, 1]), (LINE, [])):
            for value in junk() + [([0, 1], [1, 0]), ((0, 1, 1), [1, 0]), [[0, 1], [1, 0]], ([0, 1], [1]), ([0], [0]),
                                   ([False, 1], [1, 0]), ([0, True], [1, 0]), ([0, 9], [9, 0]), ([], []),
                                   ([0, 2], [2, 0]), ([0, 1, 2], [1, 0, 2]), ("01", "10"), ([0, -5], [-5, 0])]:
                self.assertIs(self.yes_or_no(are_unlike_showers, table=Table(rows), thresholds=thresholds, value=value),
                              judge_showers(rows, thresholds, value), value)

    def test_a_long_shower(self):
        line = Table([[max(one, other) for other in range(7)] for one in range(7)])
        self.assertEqual(read_of(line, [6, 5], [0] * 998 + [6, 6]), [5, 6])
        self.assertIsNone(read_of(line, [6], [5] * 1000))
        self.assertEqual(join(line, [0] * 999 + [4]), 4)


class TestErrors(Case):
    def test_wrong_values(self):
        for rows in ([[0]], [[0, 1], [1, 1]], LINE):
            table = Table(rows)
            for value in junk() + [len(rows)]:
                if is_int(value) and 0 <= value < len(rows):
                    continue
                told = {"value": value}
                self.refuse(InvalidValue, told, needed, table=table, value=value)
                self.refuse(InvalidValue, told, free_lists, table=table, value=value)
                self.refuse(InvalidValue, told, is_free, table=table, value=value, listed=None)
                for function in (missing, fewest):
                    self.refuse(InvalidValue, told, function, table=table, v=value, u=0)
                    self.refuse(InvalidValue, told, function, table=table, v=0, u=value)
                    self.refuse(InvalidValue, told, function, table=table, v=value, u=99)
                self.refuse(InvalidValue, told, does_send, table=table, v=value, u=99, listed=None)
                self.refuse(InvalidValue, told, does_send, table=table, v=0, u=value, listed=[])

    def test_wrong_pieces(self):
        for rows in ([[0]], [[0, 1], [1, 1]], LINE):
            for value in junk() + list(range(8)):
                if not (is_int(value) and value in try_pieces(rows)):
                    self.refuse(InvalidPiece, {"value": value}, is_prime, table=Table(rows), piece=value)

    def test_wrong_lists(self):
        for rows in ([[0]], [[0, 1], [1, 1]], LINE):
            table, size = Table(rows), range(len(rows))
            for value in junk() + [[0, 0], [0, len(rows)], [0, True], [False, 0], [0, -1], [0, 0, None], (0, None)]:
                fault, same = None, None
                if is_listy(value):
                    wrong = [k for k in range(len(value)) if not (is_int(value[k]) and value[k] in size)]
                    ahead = [k for k in range(len(value)) if k in wrong or value[k] in value[:k]]
                    fault, same = (wrong or [-1])[0], (ahead or [-1])[0]
                if fault != -1 or len(value) == 0:
                    told = {"position": None if fault == -1 else fault}
                    self.refuse(InvalidValues, told, join, table=table, values=value)
                    self.refuse(InvalidValues, told, read_of, table=table, thresholds=[0], shower=value)
                if same != -1:
                    told = {"position": same}
                    self.refuse(InvalidValues, told, read_of, table=table, thresholds=value, shower=None)
                    self.refuse(InvalidValues, told, are_firm, table=table, thresholds=value)
                    self.refuse(InvalidValues, told, unlike_showers, table=table, thresholds=value)
                    self.refuse(InvalidValues, told, are_unlike_showers, table=table, thresholds=value, value=None)

    def test_tables_that_do_not_melt_come_first(self):
        for table in unmelting():
            for wrong in (None, 0, True, [0]):
                for function, names in ((join, ["values"]), (pieces, []), (needed, ["value"]), (free_lists, ["value"]),
                                        (is_free, ["value", "listed"]), (is_clear, []), (is_prime, ["piece"]),
                                        (missing, ["v", "u"]), (does_send, ["v", "u", "listed"]), (fewest, ["v", "u"]),
                                        (lapse, []), (is_lapse, ["value"]), (read_of, ["thresholds", "shower"]),
                                        (are_firm, ["thresholds"]), (unlike_showers, ["thresholds"]),
                                        (are_unlike_showers, ["thresholds", "value"])):
                    self.refuse(NotMelting, {}, function, table=table, **{name: wrong for name in names})


if __name__ == "__main__":
    unittest.main()

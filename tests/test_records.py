"""[74], [75]: records of chosen ballots, finishes of runs, and bars."""

import itertools
import unittest

from balloted import Room, some_council_run, some_councils, tuples_of, walk_council, wide_tree
from oneshelf.ballots import Council, is_safe
from oneshelf.errors import InvalidBallot, InvalidOwn, InvalidRun, InvalidUp
from oneshelf.failures import NotChosen
from oneshelf.records import bar, can_choose, finish, is_bar, is_finish, is_record, record
from oneshelf.trees import Tree
from support import Case, is_int, is_listy, junk, variants
from test_ballots import MAJORITY, whole
from test_meetings import try_cuts

TWO = Council(MAJORITY, MAJORITY)
RUN = whole(3, "x", (0, 1), (1, 2))


def own_later(room, number):
    """For each greater ballot that has told its number, the houses that will do, and the ballot that was taken."""
    found = []
    for other, ballot in sorted(room.ballots.items()):
        if other > number and ballot["told"] is not None:
            held = [reply[0] for reply in ballot["replies"].values() if reply is not None]
            houses = [house for house in ballot["asked"] if house in room.ballots[number]["told"]]
            found.append((other, houses, max(held) if held else None))
    return found


def judge_record(room, number, value):
    later = own_later(room, number)
    if not is_listy(value) or len(value) != len(later):
        return False
    for told, (other, houses, taken) in zip(value, later):
        if type(told) is not tuple or len(told) != 3 or not all(is_int(part) for part in told):
            return False
        if told[0] != other or told[1] not in houses or told[2] != taken:
            return False
    return True


def lists_of_up(council):
    houses = council.members()
    return [list(up) for many in range(len(houses) + 1) for up in itertools.combinations(houses, many)]


def has_up(tree, up):
    return any(set(meeting) <= set(up) for meeting in tuples_of(tree))


def judge_finish(council, run, up, value):
    """Whether a value is a finish, by going on with the houses of the run."""
    if not is_listy(value) or len(value) > 400:
        return False
    room = walk_council(council, run)
    for step in value:
        if not room.can(step) or (step[0] in ("promise", "accept") and step[2] not in up):
            return False
        room.do(step)
    started = [step[1] for step in value if step[0] == "start"]
    return any(number in started for number, _ in room.chosen())


def judge_bar(council, up, value):
    if type(value) is not tuple or len(value) != 2 or type(value[0]) is not str or type(value[1]) is not tuple:
        return False
    if not all(is_int(house) for house in value[1]) or value[0] not in ("promise", "accept"):
        return False
    tree = council.promise if value[0] == "promise" else council.accept
    return list(value[1]) in try_cuts(tree) and not any(house in up for house in value[1])


def not_up(value):
    """Whether a value is no list of unlike COUNTS."""
    if not is_listy(value) or not all(is_int(house) and house >= 0 for house in value):
        return True
    return len(set(value)) < len(value)


class TestRecords(Case):
    def test_the_document(self):
        more = RUN + [("start", 5, "y", (0, 2)), ("promise", 5, 0), ("promise", 5, 2), ("tell", 5, (0, 1))]
        self.assertEqual((record(TWO, more, 3), can_choose(TWO, [2, 0]), is_bar(TWO, [2], ("accept", (0, 1)))),
                         ([(5, 2, 3)], True, True))

    def test_by_walking(self):
        seen = set()
        for k, council in enumerate(some_councils(150)):
            run = some_council_run(council, 13 * k, 20 + k % 80)
            room = walk_council(council, run)
            for number, worth in room.chosen():
                later = own_later(room, number)
                told = self.ask(record, council=council, run=run, ballot=number)
                fit = all(houses for _, houses, _ in later)
                seen.add((fit, min(len(later), 3)))
                if not fit:
                    self.assertIsNone(told)
                    continue
                self.assertEqual(told, [(other, min(houses), taken) for other, houses, taken in later])
                for choice in itertools.islice(itertools.product(*[houses for _, houses, _ in later]), 20):
                    value = [(other, house, taken) for (other, _, taken), house in zip(later, choice)]
                    self.assertIs(self.yes_or_no(is_record, council=council, run=run, ballot=number, value=value), True)
                    self.assertIs(is_record(council, run, number, tuple(value)), True)
                # All greater ballots then told its value.
                for other, _, _ in later:
                    self.assertEqual(room.ballots[other]["value"], worth)
        self.assertLessEqual({(True, 0), (True, 1), (True, 2), (True, 3), (False, 1), (False, 2)}, seen)

    def test_what_is_a_record(self):
        for k, council in enumerate(some_councils(60)):
            run = some_council_run(council, 17 * k, 60)
            room = walk_council(council, run)
            for number, _ in room.chosen()[:2]:
                told = record(council, run, number)
                for value in junk() + ([] if told is None else variants(told)[:80]):
                    self.assertIs(is_record(council, run, number, value), judge_record(room, number, value), value)

    def test_edges(self):
        self.assertEqual(record(TWO, RUN, 3), [])
        self.assertIs(is_record(TWO, RUN, 3, []), True)
        self.assertEqual(record(TWO, RUN + [("start", 5, "y", (0, 2)), ("promise", 5, 0)], 3), [])
        unsafe = Council(Tree.of(1, 0, 1, 2), Tree.of(1, 0, 1, 2))
        run = whole(1, "a", (0,), (1,)) + whole(2, "b", (2,), (2,))
        self.assertIsNone(record(unsafe, run, 1))
        for value in ([], [(2, 2, 1)], [(2, 1, 1)], [(2, 0, 1)]):
            self.assertIs(is_record(unsafe, run, 1, value), False)
        self.assertEqual(record(unsafe, run, 2), [])
        # A ballot with a lesser number that tells later is none.
        late = [("start", 1, "a", (1, 2))] + RUN
        self.assertEqual(record(TWO, late, 3), [])

    def test_errors(self):
        for function, rest in ((record, {}), (is_record, {"value": None})):
            for value in junk() + [RUN + [None]]:
                if type(walk_council(TWO, value)) is not Room:
                    position = walk_council(TWO, value)
                    self.refuse(InvalidRun, {"position": position}, function, council=TWO, run=value, ballot=None, **rest)
            for value in junk():
                if not (is_int(value) and value >= 0):
                    self.refuse(InvalidBallot, {"value": value}, function, council=TWO, run=RUN, ballot=value, **rest)
            for value in (0, 1, 5, 10 ** 20):
                self.refuse(NotChosen, {"value": value}, function, council=TWO, run=RUN, ballot=value, **rest)
            self.refuse(NotChosen, {"value": 3}, function, council=TWO, run=RUN[:-1], ballot=3, **rest)


class TestFinishes(Case):
    def test_for_each_list_of_houses_that_are_up(self):
        seen = set()
        for k, council in enumerate(some_councils(60)):
            run = some_council_run(council, 19 * k, 25)
            for up in lists_of_up(council):
                fine = has_up(council.promise, up) and has_up(council.accept, up)
                seen.add(fine)
                for houses in (up, tuple(up[::-1]), up + [99, 10 ** 20]):
                    self.assertIs(self.yes_or_no(can_choose, council=council, up=houses), fine)
                    told = self.ask(finish, council=council, run=run, up=houses, own="own")
                    barred = self.ask(bar, council=council, up=houses)
                    self.assertEqual([told is None, barred is None], [not fine, fine])
                    if fine:
                        self.check_finish(council, run, houses, told, "own")
                    else:
                        self.assertTrue(judge_bar(council, up, barred), barred)
                        self.assertIs(self.yes_or_no(is_bar, council=council, up=houses, value=barred), True)
        self.assertEqual(seen, {True, False})

    def check_finish(self, council, run, up, told, own):
        self.assertTrue(judge_finish(council, run, up, told))
        self.assertIs(self.yes_or_no(is_finish, council=council, run=run, up=up, value=told), True)
        self.assertEqual([step[0] for step in told].count("start"), 1)
        self.assertEqual({step[1] for step in told}, {told[0][1]})
        self.assertEqual(told[0][2], own)

    def test_what_is_a_finish(self):
        seen = set()
        for k, council in enumerate(some_councils(40)):
            run = some_council_run(council, 23 * k, 12)
            up = council.members()[:4]
            told = finish(council, run, up, "own")
            room = walk_council(council, run)
            more = [step for step in [("promise", number, house) for number in room.ballots for house in up]
                    if room.can(step)]
            values = junk() + [[], run, whole(77, "z", *[tuples_of(tree)[-1] for tree in (council.promise, council.accept)])]
            for value in values + ([] if told is None else variants(told)[:70] + [more[:1] + told, more[:1] + list(told[1:])]):
                fine = judge_finish(council, run, up, value)
                self.assertIs(is_finish(council, run, up, value), fine, value)
                self.assertIs(is_finish(council, run, up[1:], value), judge_finish(council, run, up[1:], value), value)
                seen.add(fine)
        self.assertEqual(seen, {True, False})

    def test_behind_a_long_run(self):
        council = Council(Tree(0), Tree(0))
        run = [step for number in range(100) for step in whole(number, "v", (0,), (0,))]
        told = finish(council, run, [0], "")
        self.check_finish(council, run, [0], told, "")
        long_one = [step for number in range(100, 200) for step in whole(number, "v", (0,), (0,))]
        self.assertIs(is_finish(council, run, [0], long_one), True)
        self.assertIs(is_finish(council, run, [0], long_one[:4]), True)
        self.assertIs(is_finish(council, run, [0], long_one + [("start", 500, "v", (0,))]), False)
        self.assertIs(is_finish(council, run, [], long_one), False)
        great = Council(wide_tree(200), wide_tree(200))
        self.assertIs(is_finish(great, [("start", 10 ** 20, "", (0, 8, 13))], [0, 8, 13],
                                finish(great, [("start", 10 ** 20, "", (0, 8, 13))], [0, 8, 13], "a")), True)

    def test_a_ballot_that_started_before(self):
        run = [("start", 3, "x", (0, 1)), ("promise", 3, 0), ("promise", 3, 1), ("tell", 3, (0, 1)), ("accept", 3, 0)]
        self.assertIs(is_finish(TWO, run, [0, 1], [("accept", 3, 1)]), False)
        self.assertIs(is_finish(TWO, run, [0, 1], [("accept", 3, 1)] + whole(9, "", (0, 1), (0, 1))), True)
        self.assertIs(is_finish(TWO, run, [0], [("accept", 3, 1)] + whole(9, "", (0, 1), (0, 1))), False)
        # It may ask, and tell, houses that are not up, as long as it is chosen by others.
        told = [("start", 4, "y", (1, 2))] + whole(9, "", (0, 1), (0, 1))
        self.assertIs(is_finish(TWO, run, [0, 1], told), True)
        self.assertIs(is_finish(TWO, run, [0, 1], whole(9, "", (0, 1), (0, 1))[:-1]), False)

    def test_up_without_houses(self):
        self.assertEqual([can_choose(TWO, []), finish(TWO, RUN, [], "a"), can_choose(TWO, ())], [False, None, False])
        self.assertTrue(judge_bar(TWO, [], bar(TWO, [])))
        self.assertEqual([can_choose(TWO, [24, 99]), finish(TWO, RUN, (7, 8), "a")], [False, None])

    def test_what_is_a_bar(self):
        for council in some_councils(40):
            for up in lists_of_up(council)[:9]:
                values = junk() + [(word, tuple(cut)) for word in ("promise", "accept") for tree in
                                   (council.promise, council.accept) for cut in try_cuts(tree)]
                barred = bar(council, up)
                for value in values + ([] if barred is None else variants(barred)):
                    self.assertIs(self.yes_or_no(is_bar, council=council, up=up, value=value),
                                  judge_bar(council, up, value), value)

    def test_safe_or_not_a_finish_keeps_what_was_chosen(self):
        for k, council in enumerate(some_councils(60)):
            if not is_safe(council):
                continue
            run = some_council_run(council, k, 50)
            told = finish(council, run, council.members(), "last")
            room = walk_council(council, run + told) if len(run + told) <= 400 else None
            self.assertEqual(len({value for _, value in room.chosen()}), 1)

    def test_errors(self):
        for value in junk() + [[0, 0], [0, True], [True], [0, -1], "01", {0: 0}]:
            if not_up(value):
                told = {"value": value}
                self.refuse(InvalidUp, told, can_choose, council=TWO, up=value)
                self.refuse(InvalidUp, told, bar, council=TWO, up=value)
                self.refuse(InvalidUp, told, is_bar, council=TWO, up=value, value=None)
                self.refuse(InvalidUp, told, finish, council=TWO, run=RUN, up=value, own=None)
                self.refuse(InvalidUp, told, is_finish, council=TWO, run=RUN, up=value, value=None)
            else:
                self.assertIs(type(can_choose(TWO, value)), bool)
        for value in junk() + ["123456789", "A", "-"]:
            if not (type(value) is str and len(value) <= 8 and value.isalnum() and value == value.lower() or value == ""):
                self.refuse(InvalidOwn, {"value": value}, finish, council=TWO, run=RUN, up=[], own=value)
        for value in junk() + [RUN + RUN]:
            room = walk_council(TWO, value)
            if type(room) is not Room:
                self.refuse(InvalidRun, {"position": room}, finish, council=TWO, run=value, up=None, own=None)
                self.refuse(InvalidRun, {"position": room}, is_finish, council=TWO, run=value, up=None, value=None)


if __name__ == "__main__":
    unittest.main()

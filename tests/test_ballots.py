"""[71], [72], [73]: councils, their runs, ballots, and whether unlike values can be chosen."""

import unittest

from balloted import Room, some_council_run, some_councils, tuples_of, walk_council, wide_tree
from oneshelf.ballots import (Council, ballots, can_be_done, chosen, house_states, is_council_run, is_safe, is_two,
                              two_values)
from oneshelf.errors import InvalidRun, TooMany
from oneshelf.trees import Tree
from support import Case, Dice, hash_of, junk, variants

MAJORITY = Tree.of(2, 0, 1, 2)
ALL = (house_states, ballots, chosen)


def whole(number, own, asked, told):
    """A ballot all by itself."""
    return ([("start", number, own, asked)] + [("promise", number, house) for house in asked] + [("tell", number, told)]
            + [("accept", number, house) for house in told])


def are_all_near(council):
    return all(set(one) & set(other) for one in tuples_of(council.promise) for other in tuples_of(council.accept))


def some_steps(room):
    """Steps of all kinds, many of which cannot be done."""
    numbers = sorted(room.ballots)[:3] + [0, 4, 50, 10 ** 20]
    found = []
    for number in numbers + [-1, True, False, None, "0", (0,)]:
        for house in (0, 1, 2, 4, 5, -1, True, False, None, "0", (0,)):
            found += [("promise", number, house), ("accept", number, house)]
        for meeting in room.tells[:2] + room.asks[:2] + [(), (0,), (1, 0), (True,), (False,), [0], None, 0]:
            found += [("tell", number, meeting), ("start", number, "x", meeting)]
        found += [("start", number, own, room.asks[0]) for own in ("", "12345678", "123456789", "A", None, 0, b"x")]
        found += [("start", number, "x"), ("promise", number), ("tell", number), ("accept", number, 0, 0),
                  ("promise", number, 0, 0), ("start", number, "x", room.asks[0], 0), ["promise", number, 0],
                  (b"promise", number, 0), ("begin", number, 0), ("start", number, "x", list(room.asks[0]))]
    return found + junk()


class TestCouncil(Case):
    def test_the_document(self):
        two = Council(MAJORITY, Tree.of(2, 0, 1, 2))
        run = [("start", 3, "x", (0, 1)), ("promise", 3, 0), ("promise", 3, 1), ("tell", 3, (1, 2)), ("accept", 3, 1),
               ("accept", 3, 2)]
        self.assertEqual((is_safe(two), chosen(two, run), house_states(two, run)),
                         (True, [(3, "x")], {0: (3, None), 1: (3, (3, "x")), 2: (3, (3, "x"))}))

    def test_parts(self):
        for council in some_councils(60) + [Council(Tree(7), Tree.of(2, 3, 23))]:
            for same in (Council(promise=council.promise, accept=council.accept), Council(council.promise, council.accept)):
                self.assertTrue(same == council)
            self.assertEqual(repr(council), f"Council({council.promise!r}, {council.accept!r})")
            self.assertEqual(eval(repr(council)), council)
            self.assertEqual(self.ask(council.members),
                             sorted(set(council.promise.members()) | set(council.accept.members())))
        self.assertEqual(repr(Council(Tree(0), Tree(0))), "Council(Tree(0), Tree(0))")

    def test_equality(self):
        councils = some_councils(25) + [Council(Tree(0), Tree(1)), Council(Tree(1), Tree(0))]
        for one in councils:
            for value in junk() + [repr(one), one.promise]:
                self.assertIs(one == value, False)
            for other in councils:
                self.assertIs(one == other, repr(one) == repr(other))
                self.assertIs(one != other, repr(one) != repr(other))

    def test_many_meetings(self):
        told = {"what": "meetings", "limit": 200}
        self.assertEqual(len(Council(wide_tree(200), wide_tree(200)).members()), 18)
        self.refuse(TooMany, told, Council, promise=wide_tree(201), accept=Tree(0))
        self.refuse(TooMany, told, Council, promise=Tree(0), accept=wide_tree(201))
        self.refuse(TooMany, told, Council, promise=wide_tree(201), accept=wide_tree(201))
        half = Tree.of(12, *range(24))
        self.refuse(TooMany, told, Council, promise=half, accept=Tree(0))
        self.refuse(TooMany, told, Council, promise=Tree(0), accept=half)
        council = Council(wide_tree(200), ~wide_tree(200))
        self.assertIs(is_safe(council), True)
        self.assertEqual(chosen(council, whole(5, "x", (0, 8, 13), (13, 14, 15, 16, 17))), [(5, "x")])


class TestRuns(Case):
    def check(self, council, run):
        room = walk_council(council, run)
        self.assertIs(type(room), Room)
        told = {"council": council, "run": run}
        self.assertEqual(self.ask(house_states, **told), room.states())
        self.assertEqual(list(house_states(**told)), sorted(room.houses))
        self.assertEqual(self.ask(ballots, **told), room.told())
        self.assertEqual(repr(ballots(**told)), repr(room.told()))
        self.assertEqual(self.ask(chosen, **told), room.chosen())
        self.assertIs(self.yes_or_no(is_council_run, council=council, value=run), True)
        self.assertIs(is_council_run(council, tuple(run)), True)
        self.assertEqual(chosen(council, tuple(run)), room.chosen())
        return room

    def test_by_walking(self):
        seen = set()
        for k, council in enumerate(some_councils(120)):
            run = some_council_run(council, k, 5 + k % 60)
            for many in sorted({0, 1, len(run) // 3, len(run) // 2, len(run)}):
                room = self.check(council, run[:many])
            seen.add(len(room.chosen()))
            for ballot in room.ballots.values():
                seen |= {("replies", len({reply for reply in ballot["replies"].values() if reply}))}
                seen.add(("own", ballot["value"] in (None, ballot["own"])))
        self.assertLessEqual({0, 1, 2, 3, ("replies", 0), ("replies", 1), ("replies", 2), ("own", True), ("own", False)},
                             seen)

    def test_what_can_be_done(self):
        yes = 0
        for k, council in enumerate(some_councils(30)):
            run = some_council_run(council, 7 * k, 25)
            for many in {0, len(run) // 2, len(run)}:
                room = walk_council(council, run[:many])
                for step in some_steps(room):
                    told = self.yes_or_no(can_be_done, council=council, run=run[:many], value=step)
                    self.assertIs(told, room.can(step), step)
                    yes += told
        self.assertGreater(yes, 300)

    def test_wrong_runs(self):
        for k, council in enumerate(some_councils(24)):
            run = some_council_run(council, 5 * k, 12)
            for value in variants(run)[:120] + [run + [None], [("promise", 0, 0)] + run]:
                room = walk_council(council, value)
                self.assertIs(is_council_run(council, value), type(room) is Room, value)
                if type(room) is not Room:
                    for function in ALL:
                        self.refuse(InvalidRun, {"position": room}, function, council=council, run=value)
                    self.refuse(InvalidRun, {"position": room}, can_be_done, council=council, run=value, value=None)

    def test_any_value(self):
        council = Council(MAJORITY, MAJORITY)
        for value in junk() + ["start", {("promise", 0, 0)}, [[]]]:
            room = walk_council(council, value)
            self.assertIs(self.yes_or_no(is_council_run, council=council, value=value), type(room) is Room, value)
            if type(room) is not Room:
                for function in ALL:
                    self.refuse(InvalidRun, {"position": room}, function, council=council, run=value)
        self.assertFalse(hash_of([]))

    def test_four_hundred_steps(self):
        council = Council(Tree(0), Tree(0))
        run = [step for number in range(100) for step in whole(number, f"v{number}", (0,), (0,))]
        room = self.check(council, run)
        self.assertEqual(room.chosen(), [(number, "v0") for number in range(100)])
        more = ("start", 100, "x", (0,))
        self.assertIs(can_be_done(council, run, more), False)
        self.assertIs(can_be_done(council, run[:-1], run[-1]), True)
        self.assertIs(is_council_run(council, run + [more]), False)
        for function in ALL:
            self.refuse(InvalidRun, {"position": None}, function, council=council, run=run + [more])
            self.refuse(InvalidRun, {"position": None}, function, council=council, run=[None] + run)
            self.refuse(InvalidRun, {"position": 0}, function, council=council, run=[None] + run[1:])
        self.refuse(InvalidRun, {"position": None}, can_be_done, council=council, run=run + [more], value=more)

    def test_one_house_alone(self):
        council = Council(Tree(5), Tree(5))
        run = whole(0, "", (5,), (5,)) + whole(9, "y", (5,), (5,))
        self.check(council, run)
        self.assertEqual(chosen(council, run), [(0, ""), (9, "")])
        self.assertEqual(ballots(council, run)[9], ("y", (5,), {5: (0, "")}, (5,), ""))
        self.assertEqual([can_be_done(council, run, ("accept", number, 5)) for number in (0, 9)], [False, False])

    def test_ballots_that_start_the_other_way_round(self):
        council = Council(Tree.of(1, 0, 1), Tree.of(1, 0, 1))
        run = whole(5, "z", (0,), (0,)) + whole(2, "a", (1,), (1,))
        self.check(council, run)
        self.assertEqual(chosen(council, run), [(2, "a"), (5, "z")])
        self.assertEqual(list(ballots(council, run)), [2, 5])

    def test_replies_of_several_ballots(self):
        council = Council(Tree.of(3, 0, 1, 2), Tree.of(1, 0, 1, 2))
        run = whole(1, "a", (0, 1, 2), (0,))[:-1] + whole(2, "b", (0, 1, 2), (1,)) + [("start", 5, "c", (0, 1, 2))]
        run += [("promise", 5, house) for house in (2, 1, 0)] + [("tell", 5, (2,))]
        self.check(council, run)
        self.assertEqual(ballots(council, run)[5], ("c", (0, 1, 2), {0: None, 1: (2, "b"), 2: None}, (2,), "b"))
        # A ballot whose replies are all None tells its own value.
        self.assertEqual(ballots(council, run)[2][4], "b")
        self.assertEqual(chosen(council, run), [(2, "b")])

    def test_a_promise_taken_over_amid_accepting(self):
        council = Council(MAJORITY, MAJORITY)
        run = whole(1, "a", (0, 1), (0, 1))[:-1] + [("start", 2, "b", (1, 2)), ("promise", 2, 1)]
        self.check(council, run)
        self.assertIs(can_be_done(council, run, ("accept", 1, 1)), False)
        self.assertEqual(chosen(council, run), [])
        self.assertIs(can_be_done(council, run[:-1], ("accept", 1, 1)), True)
        self.assertIs(can_be_done(council, run, ("tell", 2, (0, 1))), False)
        run += [("promise", 2, 2), ("tell", 2, (0, 2)), ("accept", 2, 0)]
        self.check(council, run)
        self.assertEqual(ballots(council, run)[2][4], "b")
        # Its tell stays possible although a house has promised to a greater ballot since.
        late = [("start", 3, "c", (0, 1)), ("promise", 3, 0), ("promise", 3, 1), ("start", 4, "d", (0, 1)),
                ("promise", 4, 0)]
        self.check(council, late)
        self.assertIs(can_be_done(council, late, ("tell", 3, (1, 2))), True)
        self.assertIs(can_be_done(council, late + [("tell", 3, (0, 2))], ("accept", 3, 0)), False)
        self.assertIs(can_be_done(council, late + [("tell", 3, (0, 2))], ("accept", 3, 2)), True)

    def test_trees_with_unlike_houses(self):
        council = Council(Tree.of(2, 0, 1), Tree.of(1, 2, 3))
        run = whole(1, "a", (0, 1), (3,))
        self.check(council, run)
        self.assertEqual(house_states(council, run), {0: (1, None), 1: (1, None), 2: (None, None), 3: (1, (1, "a"))})
        self.assertIs(can_be_done(council, run, ("promise", 1, 2)), False)

    def test_what_was_told_is_changed(self):
        council = Council(MAJORITY, MAJORITY)
        run = whole(1, "a", (0, 1), (0, 1))
        told = ballots(council, run)
        told[1][2][7] = "spoilt"
        house_states(council, run)[0] = None
        self.assertEqual(ballots(council, run), {1: ("a", (0, 1), {0: None, 1: None}, (0, 1), "a")})
        council.members().append(9)
        self.assertEqual(council.members(), [0, 1, 2])


class TestSafe(Case):
    def test_by_all_pairs_of_meetings(self):
        seen = set()
        for council in some_councils():
            near = are_all_near(council)
            self.assertIs(self.yes_or_no(is_safe, council=council), near)
            run = self.ask(two_values, council=council)
            seen.add(near)
            if near:
                self.assertIsNone(run)
                continue
            room = walk_council(council, run)
            self.assertGreater(len({value for _, value in room.chosen()}), 1)
            self.assertIs(self.yes_or_no(is_two, council=council, value=run), True)
            self.assertIs(is_two(council, tuple(run)), True)
        self.assertEqual(seen, {True, False})

    def test_what_chooses_two(self):
        seen = set()
        for k, council in enumerate(some_councils(60)):
            values = [some_council_run(council, 3 * k, 60)] + (variants(two_values(council))[:60]
                                                               if two_values(council) else [])
            for value in values:
                room = walk_council(council, value)
                wrong = type(room) is Room and len({worth for _, worth in room.chosen()}) > 1
                self.assertIs(is_two(council, value), wrong)
                self.assertFalse(wrong and is_safe(council))
                seen.add((wrong, is_safe(council)))
            for value in junk():
                self.assertIs(self.yes_or_no(is_two, council=council, value=value), False)
        self.assertEqual(seen, {(True, False), (False, False), (False, True)})

    def test_safe_councils_choose_one_value(self):
        for k, council in enumerate(some_councils(90)):
            for seed in range(3):
                values = {value for _, value in chosen(council, some_council_run(council, 9 * k + seed, 80))}
                self.assertTrue(len(values) <= 1 or not is_safe(council))

    def test_wide_trees(self):
        council = Council(wide_tree(200), Tree.of(1, 0, Tree.of(2, 20, 21)))
        self.assertIs(is_safe(council), False)
        run = two_values(council)
        self.assertIs(is_two(council, run), True)
        self.assertEqual(len({value for _, value in chosen(council, run)}), 2)
        one = Council(Tree.of(2, Tree.of(12, *range(12)), 12), Tree.of(11, *range(13, 24)))
        self.assertIs(is_two(one, two_values(one)), True)
        self.assertEqual(Dice(3).below(1), 0)


if __name__ == "__main__":
    unittest.main()

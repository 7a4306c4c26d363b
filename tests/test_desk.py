"""[93], [95]: pictures of runs; desks, their commands and logs, trials."""

import itertools
import unittest

from desked import OwnDesk, Refused, own_rows
from oneshelf.desk import Desk, Trial, again, picture_of, tried
from oneshelf.errors import (InvalidCommand, InvalidHouse, InvalidRun, InvalidState, InvalidStep, TooMany)
from oneshelf.failures import CannotBeDone, CommandFailed, NothingToRedo, NothingToUndo, UnknownValue
from oneshelf.log import Log
from oneshelf.pictures import Picture
from oneshelf.rules import Rule
from oneshelf.trees import Tree
from support import Case, Dice, is_int, junk, variants
from test_log import GOOD, WRONG
from walked import Walk, some_rules, some_run, walk_run

PAIR, BOTH = Tree.of(1, 0, 1), Tree.of(2, 0, 1)
RULE = Rule(2, PAIR, BOTH)


def some_commands(seed, rule, many):
    """Commands of all kinds for a desk of this rule, most of which can be done."""
    dice, found, texts = Dice(seed), [], 0
    hands = 1 + dice.below(min(3, 6 - rule.houses) if seed % 4 else 3)
    for _ in range(many):
        hand, house = dice.below(hands), dice.below(rule.houses)
        choice = dice.below(24)
        houses = " ".join(str(k) for k in range(rule.houses) if dice.below(2)) or "0"
        if choice < 8:
            found.append(f"at {hand} {house}")
        elif choice < 11:
            texts += dice.below(5) > 0
            found.append(f"write {hand} v{texts}" if dice.below(2) else f"read {hand}")
        elif choice < 14:
            found.append(dice.one_of([f"stop {hand}", f"lose {house}", f"note {house} {dice.below(6)}", f"note {house} 1"]))
        elif choice < 16:
            found.append(dice.one_of(["undo", "redo"]))
        else:
            found.append(dice.one_of([f"holds {house}", f"may {hand}", f"without {houses}", f"perhaps v{texts}",
                                      f"surely v{texts}", "cut", f"back {houses}", f"perhaps v{dice.below(4)}"]))
    return found


def ask_own(desk, command):
    """What the tests' own desk answers, or the class and what is kept of the error."""
    try:
        return desk.do(command)
    except Refused as error:
        return (error.kind, error.told)


def ask_desk(call, *passed):
    """What a desk answers, or the class and what is kept of the error."""
    try:
        return call(*passed)
    except Exception as error:
        return (type(error), dict(vars(error)))


def state(desk):
    """All that is seen of a desk, without what can be done again."""
    return (desk.changes, desk.run(), desk.log().lines(), [desk[house] for house in range(desk.rule.houses)], len(desk))


def deep_state(desk):
    """All that is seen of a desk when it takes back, and does again, as far as it goes."""
    found, other = [state(desk)], desk.copy()
    while other.changes:
        other.do("undo")
        found.append(state(other))
    other = desk.copy()
    while ask_desk(other.do, "redo") != (NothingToRedo, {}):
        found.append(state(other))
    return found


class TestPictures(Case):
    def test_event_by_event(self):
        seen = set()
        for k, rule in enumerate(some_rules(150)):
            run = some_run(rule, 9 * k, 3 + k % 30, 1 + k % 5, k % 3)
            rows, _ = own_rows(rule, run)
            if len(rows) > 6:
                self.refuse(TooMany, {"what": "houses", "limit": 6}, picture_of, rule=rule, run=run)
            elif sum(len(row) for row in rows) > 120:
                self.refuse(TooMany, {"what": "events", "limit": 120}, picture_of, rule=rule, run=run)
            else:
                told = self.ask(picture_of, rule=rule, run=run)
                self.assertEqual(told, Picture(rows))
                self.assertEqual(picture_of(rule, tuple(run)).rows(), rows)
                seen |= {what[1] for row in rows for what in row if what[0] == "do"}
                seen |= {what[3] for row in rows for what in row if what[0] == "say"}
        self.assertLessEqual({"a", "p", "e", "r", "l", "wv1"}, seen)

    def test_a_run_by_hand(self):
        rule = Rule(2, PAIR, BOTH, "many", "never")
        run = [("write", 5, "1234567"), ("at", 5, 1), ("lose", 0), ("read", 2), ("at", 5, 0), ("at", 2, 0), ("stop", 5)]
        wanted = [
            [("do", "l"), ("hear", 9), ("say", 0, 3, "p"), ("hear", 2), ("say", 6, 2, "a")],
            [("hear", 3), ("say", 1, 3, "a")],
            [("do", "r"), ("say", 2, 0, "a"), ("hear", 6), ("do", "e")],
            [("do", "w1234567"), ("say", 3, 1, "a"), ("hear", 1), ("say", 9, 0, "p"), ("hear", 0)]]
        self.assertEqual(picture_of(rule, run), Picture(wanted))

    def test_six_houses_and_120_events(self):
        rule = Rule(5, Tree.of(1, *range(5)), Tree.of(1, *range(5)), "many", "never")
        self.assertEqual(picture_of(rule, [("read", 7)]).houses, 6)
        self.refuse(TooMany, {"what": "houses", "limit": 6}, picture_of, rule=rule, run=[("read", 7), ("read", 0)])
        eight = [("read", hand) for hand in range(8)] + [("at", hand, hand % 5) for hand in range(8)] * 1
        self.refuse(TooMany, {"what": "houses", "limit": 6}, picture_of, rule=rule, run=eight)
        self.assertEqual(len(picture_of(rule, [("lose", 0)] * 120)), 120)
        self.refuse(TooMany, {"what": "events", "limit": 120}, picture_of, rule=rule, run=[("lose", 0)] * 121)
        run = [("read", 0), ("at", 0, 0)] * 20
        self.assertEqual(len(picture_of(rule, run)), 120)
        self.refuse(TooMany, {"what": "events", "limit": 120}, picture_of, rule=rule, run=run + [("read", 0)])
        both = [("lose", 0)] * 121 + [("read", 0), ("read", 1)]
        self.refuse(TooMany, {"what": "houses", "limit": 6}, picture_of, rule=rule, run=both)
        self.assertEqual(picture_of(rule, []), Picture([[]] * 5))
        self.assertEqual(picture_of(rule, [("read", 3), ("stop", 3)]), Picture([[]] * 5 + [[("do", "r")]]))

    def test_wrong_runs(self):
        for value in junk() + variants([("write", 0, "a"), ("at", 0, 0), ("read", 3)]) + [[("lose", 0)] * 201]:
            position = walk_run(RULE, value)
            if type(position) is not Walk:
                self.refuse(InvalidRun, {"position": position}, picture_of, rule=RULE, run=value)


class TestCommands(Case):
    def test_the_document(self):
        desk = Desk(RULE)
        self.assertEqual(desk.do_all("write 0 a", "at 0 0", "may 0", "without 1", "read 1", "at 1 1"),
                         ["done", "done", "1", "none", "done", "done"])
        self.assertEqual([desk("cut"), tried(desk, "at 1 0", "at 1 1", "holds 0", "perhaps a"), desk.changes,
                          desk.log().text().split("\n")[0]], ["0 0 2 2", ["done", "-", "1 0 a", "none"], 4, "1 write 0 a"])

    def test_beside_a_shelf_of_the_tests_own(self):
        seen = {}
        for k, rule in enumerate(some_rules(150)):
            desk, own = Desk(rule), OwnDesk(rule)
            for command in some_commands(k, rule, 40):
                wanted = ask_own(own, command)
                call = (desk.do, desk)[k % 2]
                told = ask_desk(call, command)
                self.assertEqual(told, wanted, (rule, own.run(), own.notes(), command))
                word = command.split(" ")[0]
                seen.setdefault(word, set()).add(wanted if type(wanted) is str else wanted[0])
                self.assertEqual(desk.run(), own.run())
                self.assertEqual((desk.changes, len(desk)), (len(own.done), len(own.run())))
                self.assertEqual([desk[house] for house in range(rule.houses)], own.notes())
            self.assertEqual(desk.log().lines(), [" ".join(str(part) for part in change) for change in own.done])
            self.assertEqual(desk.rule, rule)
            self.assertEqual(again(rule, desk.log()), desk)
        for word in ("write", "read", "stop"):
            self.assertEqual(seen[word], {"done", CannotBeDone})
        self.assertLessEqual({"done", "-", "v1", "v2", CannotBeDone}, seen["at"])
        self.assertLessEqual({"done", InvalidState, TooMany}, seen["note"])
        self.assertLessEqual({"0", "1", NothingToUndo}, seen["undo"])
        self.assertLessEqual({"1", "2", NothingToRedo}, seen["redo"])
        self.assertLessEqual({"none", "0", "0 1"}, seen["may"])
        self.assertLessEqual({"none", "0", "1"}, seen["without"])
        self.assertLessEqual({"none", UnknownValue, TooMany}, seen["perhaps"])
        self.assertLessEqual({"yes", "no", UnknownValue, TooMany}, seen["surely"])
        for word in ("holds", "perhaps", "cut", "back"):
            self.assertGreater(len(seen[word]), 7)

    def test_no_commands(self):
        desk = Desk(RULE)
        desk.do_all("write 0 a", "at 0 0")
        before = deep_state(desk)
        values = [value for value in WRONG if value not in ("undo", "redo", "cut", "holds 0", "may 0", "without 0",
                                                            "perhaps a", "surely a", "back 0")]
        values += ["undo 1", "undo ", "redo 0", "cut 0", "holds", "holds 2", "holds 0 0", "may", "may 8", "may 0 0", "without",
                   "without ", "without 0 0", "without 2", "without 0  1", "without 0 1 0", "back", "back 5", "back 1 1",
                   "perhaps", "perhaps -", "perhaps 12345678", "perhaps a b", "surely", "surely A", "at 0 2", "lose 2",
                   "note 2 0", "note 0 x", "holds 00", "hold 0", "lose 3", "at 3 4", "note 4 1"]
        for value in values + junk():
            if type(value) is not str or value in values:
                self.refuse(InvalidCommand, {"value": value}, desk.do, command=value)
                self.refuse(InvalidCommand, {"value": value}, desk, command=value)
        self.assertEqual(deep_state(desk), before)

    def test_changes_are_all_steps_and_notes(self):
        five = Rule(5, Tree.of(1, *range(5)), Tree.of(1, *range(5)))
        desk = Desk(five)
        for change in GOOD:
            if change[:4] != "note":
                self.assertIn(ask_desk(desk.do, change), ("done", (CannotBeDone, {"value": tuple(
                    int(word) if word.isdigit() and word != "1234567" else word for word in change.split(" "))})))

    def test_undo_and_redo(self):
        desk = Desk(RULE)
        self.refuse(NothingToUndo, {}, desk.do, command="undo")
        self.refuse(NothingToRedo, {}, desk.do, command="redo")
        self.assertEqual(desk.do_all("write 0 a", "at 0 0", "note 0 1", "undo", "undo", "redo", "undo", "undo", "redo",
                                     "holds 0", "redo", "redo", "holds 0"),
                         ["done", "done", "done", "2", "1", "2", "1", "0", "1", "0 -1 -", "2", "3", "1 0 a"])
        self.refuse(NothingToRedo, {}, desk.do, command="redo")
        self.assertEqual(desk.do("undo"), "2")
        self.assertEqual(desk[0], 0)
        for question in ("holds 0", "may 0", "without 0", "cut", "back 0", "perhaps a", "surely a"):
            desk.do(question)
        self.assertEqual(desk.do("redo"), "3")
        self.assertEqual(desk[0], 1)
        self.assertEqual(desk.do_all("undo", "at 0 1"), ["2", "done"])
        self.refuse(NothingToRedo, {}, desk.do, command="redo")

    def test_the_ends_of_runs_and_logs(self):
        desk = Desk(Rule(1, Tree(0), Tree(0), "one", "never"))
        steps = ["read 1", "at 1 0"] * 100
        desk.do_all(*steps)
        self.assertEqual((len(desk), desk.changes), (200, 200))
        before = state(desk)
        for command in ("read 0", "lose 0", "at 1 0", "write 3 a"):
            self.refuse(TooMany, {"what": "steps", "limit": 200}, desk.do, command=command)
        self.refuse(TooMany, {"what": "events", "limit": 120}, desk.do, command="note 0 1")
        self.refuse(TooMany, {"what": "events", "limit": 120}, desk.do, command="cut")
        self.refuse(TooMany, {"what": "events", "limit": 120}, desk.do, command="back 0")
        self.refuse(UnknownValue, {"value": "a"}, desk.do, command="perhaps a")
        self.assertEqual(state(desk), before)
        self.assertEqual(desk.do("holds 0"), "0 -1 -")
        notes = Desk(Rule(2, PAIR, BOTH))
        for k in range(300):
            self.assertEqual(notes.do(f"note {k % 2} 0"), "done")
        for command in ("note 0 0", "read 0"):
            self.refuse(TooMany, {"what": "changes", "limit": 300}, notes.do, command=command)
        self.refuse(InvalidState, {"value": 1}, notes.do, command="note 0 1")
        self.refuse(CannotBeDone, {"value": ("stop", 0)}, notes.do, command="stop 0")
        self.assertEqual((notes.changes, notes.do("cut"), len(notes.log())), (300, "0 0", 300))
        self.assertEqual(notes.do_all("undo", "redo"), ["299", "300"])
        self.assertEqual(notes.do("undo"), "299")
        self.assertEqual(notes.do("read 0"), "done")

    def test_which_error_is_first(self):
        many = Rule(5, Tree.of(1, *range(5)), Tree.of(5, *range(5)), "many", "never")
        desk = Desk(many)
        desk.do_all("write 0 a", "write 1 b", "at 0 0")
        houses = {"what": "houses", "limit": 6}
        for command in ("perhaps a", "surely a", "perhaps b", "cut", "back 0", "note 0 9", "note 0 0"):
            self.refuse(TooMany, houses, desk.do, command=command)
        self.refuse(UnknownValue, {"value": "c"}, desk.do, command="surely c")
        self.refuse(InvalidCommand, {"value": "note 5 0"}, desk.do, command="note 5 0")
        one = Desk(many)
        one.do_all("write 0 a")
        self.assertEqual(one.do_all("perhaps a", "surely a", "may 0", "without 0"), ["none", "no", "0 1 2 3 4", "none"])

    def test_without_within_the_200(self):
        rule = Rule(3, Tree.of(2, 0, 1, 2), Tree.of(2, 0, 1, 2), "many", "if unlike")
        for losses in range(192, 200):
            desk, own = Desk(rule), OwnDesk(rule)
            for command in ["read 1", "write 2 a"] + ["lose 0"] * (losses - 2):
                desk.do(command)
                own.do(command)
            for houses in ("0", "2", "0 1", "1"):
                self.assertEqual(desk.do("without " + houses), own.do("without " + houses))

    def test_perhaps_and_surely(self):
        rule = Rule(2, PAIR, BOTH, "one", "always")
        desk = Desk(rule)
        self.assertEqual(desk.do_all("write 0 a", "perhaps a", "surely a", "at 0 0", "perhaps a", "at 0 1", "perhaps a",
                                     "surely a"),
                         ["done", "none", "no", "done", "none", "done", "2 1 4", "yes"])
        self.assertEqual(desk.do_all("lose 0", "surely a", "perhaps a"), ["done", "no", "2 1 4"])

    def test_steps_in_place(self):
        desk = Desk(RULE)
        same = desk
        desk += ("write", 0, "a")
        desk += ("at", 0, 1)
        self.assertIs(desk, same)
        self.assertEqual(desk.run(), [("write", 0, "a"), ("at", 0, 1)])
        self.assertEqual(desk.log().lines(), ["write 0 a", "at 0 1"])

        def plus(step):
            other = desk
            other += step
            return other

        for value in junk() + [("read", 8), ("read", True), ("at", 0, 2), ("lose", 2), ("write", 0, ""), ["read", 0],
                               ("write", 0, "12345678"), "read 0", ("note", 0, 0), ("undo",), ("read", 0, 0), ("at", 0)]:
            self.refuse(InvalidStep, {"value": value}, plus, step=value)
        self.refuse(CannotBeDone, {"value": ("at", 0, 1)}, plus, step=("at", 0, 1))
        self.assertEqual(desk.do("undo"), "1")
        desk += ("at", 0, 0)
        self.refuse(NothingToRedo, {}, desk.do, command="redo")
        full = Desk(Rule(1, Tree(0), Tree(0)))
        full.do_all(*["lose 0"] * 200)
        with self.assertRaises(TooMany) as caught:
            full += ("lose", 0)
        self.assertEqual((caught.exception.what, caught.exception.limit), ("steps", 200))

    def test_notes(self):
        desk = Desk(RULE)
        desk.do_all("write 0 a", "at 0 0")
        desk[0] = 2
        self.assertEqual((desk[0], desk[1], desk.log().lines()[-1]), (2, 0, "note 0 2"))
        self.assertEqual(desk.do("undo"), "2")
        self.assertEqual(desk[0], 0)

        def put(house, value):
            desk[house] = value

        for value in junk() + [2, 3]:
            if not (is_int(value) and 0 <= value < 2):
                self.refuse(InvalidHouse, {"value": value}, lambda house: desk[house], house=value)
                self.refuse(InvalidHouse, {"value": value}, put, house=value, value=None)
            if not (is_int(value) and 0 <= value <= 2):
                self.refuse(InvalidState, {"value": value}, put, house=0, value=value)
        self.assertEqual(desk.do("redo"), "3")
        wide = Desk(Rule(5, Tree.of(1, *range(5)), Tree.of(1, *range(5)), "many"))
        wide.do_all("read 0", "read 1")
        with self.assertRaises(TooMany):
            wide[0] = None
        self.assertRaises(InvalidHouse, lambda: wide[5])
        self.assertRaises(TypeError, lambda: list(desk))

    def test_cuts_and_going_back(self):
        rule = Rule(2, PAIR, BOTH, "one", "always")
        desk = Desk(rule)
        desk.do_all("write 0 a", "at 0 0", "at 0 1", "read 1", "at 1 0", "note 0 2", "note 1 2", "at 1 1")
        own = OwnDesk(rule)
        for command in desk.log().lines():
            own.do(command)
        for command in ("cut", "back 0", "back 1", "back 0 1", "back 1 0", "perhaps a", "surely a"):
            self.assertEqual(desk.do(command), own.do(command))


class TestMany(Case):
    def test_a_row_of_commands_of_which_one_is_refused(self):
        for k, rule in enumerate(some_rules(60)):
            desk, own = Desk(rule), OwnDesk(rule)
            desk.do_all(*[command for command in some_commands(k, rule, 10) if type(ask_own(own, command)) is str])
            before = deep_state(desk)
            commands = some_commands(k + 500, rule, 8)
            own_answers = []
            for position, command in enumerate(commands):
                answer = ask_own(own, command)
                own_answers.append(answer)
                if type(answer) is not str:
                    with self.assertRaises(CommandFailed) as caught:
                        desk.do_all(*commands)
                    self.assertEqual(caught.exception.position, position)
                    self.assertEqual((type(caught.exception.__cause__), dict(vars(caught.exception.__cause__))), answer)
                    self.assertEqual(deep_state(desk), before)
                    break
            else:
                self.assertEqual(desk.do_all(*commands), own_answers)

    def test_first_inner_and_last(self):
        desk = Desk(RULE)
        desk.do_all("read 1", "undo")
        before = deep_state(desk)
        good = ["write 0 a", "at 0 0", "note 0 1"]
        for wrong, cause in (("at 0", InvalidCommand), ("redo", NothingToRedo), ("stop 5", CannotBeDone), (None, InvalidCommand),
                             ("perhaps z", UnknownValue), ("note 0 9", InvalidState)):
            for at in range(4):
                if at == 0 and wrong == "redo":
                    continue
                with self.assertRaises(CommandFailed) as caught:
                    desk.do_all(*good[:at], wrong, *good[at:])
                self.assertEqual(caught.exception.position, at)
                self.assertIs(type(caught.exception.__cause__), cause)
                self.assertEqual(deep_state(desk), before)
        self.assertEqual(desk.do_all(), [])
        self.assertEqual(desk.do_all("redo"), ["1"])

    def test_copies(self):
        desk = Desk(RULE)
        desk.do_all("write 0 a", "at 0 0", "note 0 1", "undo")
        other = desk.copy()
        self.assertTrue(desk == other)
        self.assertEqual(deep_state(other), deep_state(desk))
        other.do_all("redo", "at 0 1")
        self.assertEqual((desk.changes, other.changes), (2, 4))
        self.assertEqual((desk.do("redo"), desk[0], other[0]), ("3", 1, 1))
        self.assertFalse(desk == other)
        other.do("undo")
        self.assertTrue(desk == other)

    def test_equality(self):
        desks = [Desk(RULE), Desk(Rule(2, PAIR, BOTH, "many")), Desk(RULE), Desk(RULE), Desk(RULE)]
        desks[2].do_all("read 1", "note 0 0")
        desks[3].do_all("note 1 0", "read 1", "lose 0", "undo")
        desks[4].do_all("lose 0", "note 0 1")
        desks.append(Desk(RULE))
        desks[5].do_all("lose 0", "note 0 1", "undo")
        for one, other in itertools.product(range(6), repeat=2):
            same = one == other or {one, other} == {2, 3}
            self.assertIs(desks[one] == desks[other], same)
            self.assertIs(desks[one] != desks[other], not same)
        for value in junk() + [RULE, [], "Desk"]:
            self.assertIs(desks[0] == value, False)

    def test_what_was_told_is_changed(self):
        desk = Desk(RULE)
        desk.do_all("read 1", "at 1 0")
        desk.run().append(("read", 2))
        desk.log().lines().append("read 2")
        self.assertEqual((desk.run(), len(desk), desk.changes), ([("read", 1), ("at", 1, 0)], 2, 2))


class TestTrials(Case):
    def desk(self):
        desk = Desk(RULE)
        desk.do_all("write 0 a", "at 0 0", "note 0 1", "read 1", "undo", "undo")
        return desk

    def test_a_trial(self):
        desk = self.desk()
        before = deep_state(desk)
        with Trial(desk) as held:
            self.assertIs(held, desk)
            self.assertEqual(held.do_all("at 0 1", "read 2"), ["done", "done"])
            held[1] = 2
            held += ("lose", 0)
        self.assertEqual(deep_state(desk), before)
        self.assertEqual(desk.do_all("redo", "redo"), ["3", "4"])

    def test_trials_that_end_by_an_error(self):
        desk = self.desk()
        before = deep_state(desk)
        trial = Trial(desk=desk)
        for error in (KeyError, CannotBeDone, InvalidCommand, StopIteration):
            for _ in range(2):
                with self.assertRaises(error):
                    with trial as held:
                        held.do("at 0 1")
                        if error is CannotBeDone:
                            held.do("at 0 1")
                        if error is InvalidCommand:
                            held.do("")
                        raise error("why")
                self.assertEqual(deep_state(desk), before)
        desk.do("redo")
        with trial:
            desk.do_all("undo", "undo", "undo")
        self.assertEqual(desk.changes, 3)
        self.assertEqual(desk.do("redo"), "4")

    def test_trials_in_one_another(self):
        desk = self.desk()
        before = deep_state(desk)
        with Trial(desk):
            desk.do("at 0 1")
            inner = deep_state(desk)
            with Trial(desk):
                desk.do_all("undo", "undo")
            self.assertEqual(deep_state(desk), inner)
        self.assertEqual(deep_state(desk), before)

    def test_leaving_by_return_and_break(self):
        desk = self.desk()
        before = deep_state(desk)

        def leave():
            with Trial(desk) as held:
                return held.do("at 0 1")

        self.assertEqual(leave(), "done")
        for _ in range(3):
            with Trial(desk):
                desk.do("undo")
                break
        self.assertEqual(deep_state(desk), before)

    def test_tried(self):
        desk = self.desk()
        before = deep_state(desk)
        self.assertEqual(tried(desk, "at 0 1", "holds 1", "undo", "holds 1"), ["done", "1 0 a", "2", "0 -1 -"])
        self.assertEqual(tried(desk), [])
        self.assertEqual(deep_state(desk), before)
        with self.assertRaises(CommandFailed) as caught:
            tried(desk, "at 0 1", "at 0 1")
        self.assertEqual(caught.exception.position, 1)
        self.assertIs(type(caught.exception.__cause__), CannotBeDone)
        self.assertEqual(deep_state(desk), before)


class TestAgain(Case):
    def test_logs_are_done_again(self):
        for k, rule in enumerate(some_rules(60)):
            desk, own = Desk(rule), OwnDesk(rule)
            for command in some_commands(k, rule, 25):
                if type(ask_own(own, command)) is str:
                    desk.do(command)
            told = again(rule=rule, log=desk.log())
            self.assertTrue(told == desk)
            self.assertEqual(state(told), state(desk))
            self.refuse(NothingToRedo, {}, told.do, command="redo")
            self.assertEqual(again(rule, Log.of_text(desk.log().text())).run(), own.run())
        self.assertTrue(again(RULE, Log()) == Desk(RULE))

    def test_logs_that_fail(self):
        for changes, position, cause in ((["at 0 0"], 0, CannotBeDone), (["read 1", "read 1"], 1, CannotBeDone),
                                         (["read 1", "lose 2"], 1, InvalidCommand), (["note 0 1"], 0, InvalidState),
                                         (["lose 0"] * 201, 200, TooMany), (["read 0", "note 4 0"], 1, InvalidCommand)):
            with self.assertRaises(CommandFailed) as caught:
                again(RULE, Log(changes))
            self.assertEqual(caught.exception.position, position)
            self.assertIs(type(caught.exception.__cause__), cause)


if __name__ == "__main__":
    unittest.main()

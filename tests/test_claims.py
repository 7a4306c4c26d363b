"""[4], [92]: claims, the table of words, contraries, papers."""

import unittest

import oneshelf.ahead as ahead
import oneshelf.back as back
import oneshelf.ballots as ballots
import oneshelf.common as common
import oneshelf.flags as flags
import oneshelf.kept as kept
import oneshelf.knowing as knowing
import oneshelf.loads as loads
import oneshelf.log as log
import oneshelf.meetings as meetings
import oneshelf.records as records
import oneshelf.refusals as refusals
import oneshelf.rules as rules
import oneshelf.votes as votes
import oneshelf.wrongruns as wrongruns
import oneshelf.zigzags as zigzags
import oneshelf.zones as zones
from balloted import some_councils, wide_tree
from oneshelf.ballots import Council
from oneshelf.books import Book
from oneshelf.claims import WORDS, contrary, is_claim, is_paper, is_true, paper_of
from oneshelf.errors import InvalidClaim, TooMany
from oneshelf.histories import History
from oneshelf.pictures import Picture
from oneshelf.rules import Rule
from oneshelf.trees import Tree
from recalled import histories, plain_histories
from support import Case, Dice, all_events, is_int, is_listy, junk, small_pictures, talkative_pictures, try_cuts, try_lines
from support import variants
from test_log import some_pairs
from test_meetings import try_meetings
from turned import kept_pictures, own_left, some_kept, spots_of
from walked import some_rules, some_trees_of

LINES = [("ahead", "not ahead"), ("perhaps", "never"), ("surely", "not surely"), ("known along", "unknown"),
         ("common", "not common"), ("meeting", "apart"), ("votes", "trade"), ("load within", "load above"),
         ("explained", "refused"), ("plain explained", "plain refused"), ("right", "wrong"), ("safe", "two values"),
         ("can choose", "barred"), ("together", "barrier"), ("undone", "remains"), ("alike", "different")]
# The truth of the first word of each line, by the function of the table.
TRUTHS = {
    "ahead": ahead.is_ahead, "perhaps": lambda *parts: flags.perhaps(*parts) is not None, "surely": flags.surely,
    "known along": knowing.knows_along, "common": common.is_common,
    "meeting": lambda one, other: meetings.apart(one, other) is None,
    "votes": lambda tree: votes.votes(tree) is not None,
    "load within": lambda tree, limit: loads.load(tree)[0] * limit[1] <= limit[0] * loads.load(tree)[1],
    "explained": refusals.is_explained, "plain explained": zones.is_plain_explained, "right": rules.is_right,
    "safe": ballots.is_safe, "can choose": records.can_choose,
    "together": lambda *parts: kept.least_kept_cut(*parts) is not None,
    "undone": lambda *parts: back.undoings(*parts) is not None, "alike": log.are_alike,
}


def line_against(picture, first, second, value):
    rows = picture.rows()
    if not is_listy(value) or not all(is_int(house) for house in value) or list(value) not in try_lines(rows):
        return False
    done, events = [0] * len(rows), []
    for house in value:
        events.append((house, done[house]))
        done[house] += 1
    return events.index(second) < events.index(first)


def a_cut(rows, value):
    return type(value) is tuple and all(is_int(count) for count in value) and value in try_cuts(rows)


def standing_cut(picture, told, value):
    return a_cut(picture.rows(), value) and all(told[house][count] for house, count in enumerate(value))


def is_lot(tree, value):
    return is_listy(value) and all(is_int(house) for house in value) and len(set(value)) == len(value) and sorted(
        value) in try_meetings(tree)


def two_apart(one, other, value):
    if type(value) is not tuple or len(value) != 2 or not is_lot(one, value[0]) or not is_lot(other, value[1]):
        return False
    return not set(value[0]) & set(value[1])


def heavy(tree, limit, value):
    if type(value) is not tuple or len(value) != 2 or not rules.is_integer(1):
        return False
    least = value[0]
    if type(least) is not tuple or len(least) != 2 or not all(is_int(part) for part in least) or least[1] < 1:
        return False
    try:
        return least[0] * limit[1] > limit[0] * least[1] and loads.is_weights(tree, least, value[1])
    except ValueError:
        return False


def up_meetings(council, up, value):
    if type(value) is not tuple or len(value) != 2:
        return False
    return is_lot(council.promise, value[0]) and is_lot(council.accept, value[1]) and all(
        house in up for houses in value for house in houses)


def kept_with(picture, told, spots, value):
    return a_cut(picture.rows(), value) and all(count in told[house] for house, count in enumerate(value)) and all(
        value[house] == state for house, state in spots)


def left_cut(picture, told, fallen, event, written, value):
    rows = picture.rows()
    return a_cut(rows, value) and value[event[0]] > event[1] and all(
        count in own_left(rows, told, fallen, house, written) for house, count in enumerate(value))


JUDGES = {
    "ahead": ahead.is_chain, "not ahead": line_against, "perhaps": standing_cut, "never": flags.are_crossings,
    "surely": flags.are_stretches, "not surely": flags.is_line_past, "known along": knowing.are_layers,
    "unknown": knowing.is_path_against, "common": common.are_closed_seats, "not common": common.is_way_out,
    "meeting": meetings.are_cuts_within, "apart": two_apart, "votes": votes.is_votes, "trade": votes.is_trade,
    "load within": loads.is_chances, "load above": heavy, "explained": refusals.explains, "refused": refusals.is_refusal,
    "plain explained": refusals.explains, "plain refused": zones.is_plain_refusal,
    "right": lambda rule, losing, value: rules.is_right_paper(rule, value, losing),
    "wrong": lambda rule, losing, value: wrongruns.is_wrong_run(rule, value, losing),
    "safe": lambda council, value: meetings.are_cuts_within(council.promise, council.accept, value),
    "two values": ballots.is_two, "can choose": up_meetings, "barred": records.is_bar, "together": kept_with,
    "barrier": zigzags.is_barrier,
    "undone": lambda picture, told, fallen, event, written, value: back.is_undoings(picture, told, fallen, event, value,
                                                                                    written),
    "remains": left_cut, "alike": log.are_exchanges_between, "different": log.is_difference,
}


def some_flags(picture, seed):
    dice = Dice(seed)
    return [[dice.below(3) > 0 for _ in range(len(row) + 1)] for row in picture.rows()]


def some_books():
    wrote = Picture([[("do", "w"), ("say", 0, 1, "x")], [("hear", 0)]])
    idle = Picture([[("say", 0, 1, "y")], [("hear", 0)]])
    other = Picture([[("say", 0, 1, "x")], [("hear", 0), ("do", "v")]])
    return [Book([wrote, idle]), Book([wrote, other, idle], [["", "a"], ["", "a"], ["b", ""]]),
            Book([wrote, idle], watched=[[(0, 0), (2, 1)], [(0, 0), (1, 1)]])]


def picture_parts():
    """Parts of claims by the words of pictures."""
    found = {"ahead": [], "perhaps": [], "surely": [], "together": [], "undone": []}
    for k, picture in enumerate(small_pictures()[3::3] + talkative_pictures(6)):
        events = all_events(picture.rows())
        pairs = [(one, other) for one in events for other in events if one != other]
        found["ahead"] += [(picture, one, other) for one, other in pairs[::9]]
        for word in ("perhaps", "surely"):
            found[word] += [(picture, some_flags(picture, 3 * k + more)) for more in range(3)]
    for k, (picture, rows, told) in enumerate(kept_pictures(40)[::2]):
        told = some_kept(rows, 2 + k) if k % 2 else told
        spots = spots_of(told)
        found["together"] += [(picture, told, []), (picture, told, (spots[k % len(spots)],))]
        found["together"].append((picture, told, [spots[0], spots[-1]] if spots[0][0] != spots[-1][0] else spots[:1]))
        letters = [what[1] for row in rows for what in row if what[0] == "hear"]
        for event in all_events(rows)[::4]:
            found["undone"] += [(picture, told, [k % len(rows)], event, ()), (picture, told, [0, 1][:len(rows)], event,
                                                                              letters[:1])]
    return found


def all_parts():
    """For the first word of each line lists of parts."""
    found = picture_parts()
    facts = [("done", 0, "w", 1), ("any", [("done", 0, "w", 1), ("not", ("done", 1, "v", 1))]), ("at", [])]
    found["known along"] = [(book, houses, fact, point) for book in some_books() for fact in facts
                            for houses in ([0], [1, 0], (0, 1, 0)) for point in book.points()[::3]]
    found["common"] = [(book, group, fact, point) for book in some_books() for fact in facts + [("not", ("at", []))]
                       for group in ([0], (1, 0)) for point in book.points()[::3]]
    trees = [tree for houses in (1, 3, 4) for tree in some_trees_of(houses)[::2]]
    found["meeting"] = [(one, other) for one in trees for other in trees[::2]]
    halves = Tree.of(2, Tree.of(1, 0, 1), Tree.of(1, 2, 3))
    found["votes"] = [(tree,) for tree in trees + [halves, ~halves, Tree.of(2, Tree.of(2, 0, 1), Tree.of(2, 2, 3))]] + [
        (Tree.of(1, Tree.of(2, 0, 1), Tree.of(2, 2, 3)),)]
    found["load within"] = [(tree, limit) for tree in trees for limit in ((1, 1), (1, 2), (2, 3), (0, 1), (-1, 2))]
    found["explained"] = [(History(entries), things) for entries, things in histories(40, 4, 3)]
    found["plain explained"] = [(History(entries), firsts) for entries, firsts in plain_histories(40, 6, 2)]
    found["right"] = [(rule, losing) for rule in some_rules(24) for losing in (0, 1)]
    found["safe"] = [(council,) for council in some_councils(30)]
    found["can choose"] = [(council, up) for council in some_councils(16) for up in ([], [0], (1, 0, 99), council.members())]
    found["alike"] = some_pairs(20)
    return found


class TestClaims(Case):
    def test_the_document(self):
        split = ("meeting", Tree.of(1, 0, 1), Tree.of(2, 0, 1))
        self.assertEqual([is_true(split), is_paper(split, {(0,): [0], (1,): [1]})], [True, True])

    def test_the_words(self):
        self.assertEqual(WORDS, LINES)
        self.assertEqual(set(JUDGES), {word for line in LINES for word in line})

    def test_truths_contraries_and_papers(self):
        parts = all_parts()
        for line in LINES:
            seen = set()
            for told in parts[line[0]]:
                truth = TRUTHS[line[0]](*told)
                seen.add(truth)
                for word, other, right in ((line[0], line[1], truth), (line[1], line[0], not truth)):
                    claim = (word, *told)
                    self.assertIs(self.yes_or_no(is_claim, value=claim), True)
                    self.assertIs(self.yes_or_no(is_true, claim=claim), right)
                    self.assertEqual(self.ask(contrary, claim=claim), (other, *told))
                    self.check_paper(claim, right)
            self.assertEqual(seen, {True, False}, line)

    def check_paper(self, claim, right):
        """That there is a paper of a claim that is true, and none of one that is not."""
        paper = self.ask(paper_of, claim=claim)
        if not right:
            self.assertIsNone(paper)
            self.assertIs(is_paper(claim, paper_of(contrary(claim))), False)
            return
        self.assertIs(JUDGES[claim[0]](*claim[1:], paper), True, (claim, paper))
        self.assertIs(self.yes_or_no(is_paper, claim=claim, value=paper), True)
        self.assertIs(is_paper(contrary(claim), paper), False)

    def test_what_is_a_paper(self):
        parts = all_parts()
        for line in LINES:
            seen = set()
            for told in parts[line[0]][::7]:
                truth = TRUTHS[line[0]](*told)
                claim = (line[0] if truth else line[1], *told)
                paper = paper_of(claim)
                for value in variants(paper)[:90] + junk():
                    wanted = bool(JUDGES[claim[0]](*told, value))
                    self.assertIs(is_paper(claim, value), wanted, (claim, value))
                    self.assertIs(is_paper(contrary(claim), value), False)
                    seen.add(wanted)
            self.assertIn(False, seen)

    def test_papers_that_are_told(self):
        one, other = Tree.of(2, 0, 1), Tree.of(1, 2, Tree.of(2, 3, 4))
        claim = ("apart", one, other)
        for value, wanted in (((([0, 1], [2])), True), (([1, 0], [4, 3]), True), (((0, 1), (2,)), True), (([0], [2]), False),
                              (([0, 1], [2, 3]), False), ([[0, 1], [2]], False), (([2], [0, 1]), False)):
            self.assertIs(is_paper(claim, value), wanted, value)
        council = Council(Tree.of(2, 0, 1, 2), Tree.of(1, 0, 1, 2))
        for value, wanted in ((([0, 2], [2]), True), (([2, 0], (0,)), True), (([0, 1], [2]), False), (([0, 2], [1]), False),
                              (([0, 2, 1], [2]), False), (((0, 2), (0,)), True)):
            self.assertIs(is_paper(("can choose", council, (2, 0, 7)), value), wanted, value)
        half = ("load above", Tree.of(1, 0, 1), (1, 3))
        for value, wanted in ((((1, 2), {0: (1, 2), 1: (1, 2)}), True), (((2, 5), {0: (1, 2), 1: (1, 2)}), True),
                              (((1, 3), {0: (1, 2), 1: (1, 2)}), False), (((2, 5), {0: (2, 5), 1: (3, 5)}), True),
                              (((1, 2), {0: (2, 5), 1: (3, 5)}), False), (((2, 4), {0: (1, 2), 1: (1, 2)}), False),
                              ([(1, 2), {0: (1, 2), 1: (1, 2)}], False)):
            self.assertIs(is_paper(half, value), wanted, value)
        picture = Picture([[("do", "a")], [("do", "b")]])
        for value, wanted in (([1, 0], True), ((1, 0), True), ([0, 1], False), ([1], False), ([True, 0], False)):
            self.assertIs(is_paper(("not ahead", picture, (0, 0), (1, 0)), value), wanted, value)

    def test_no_claims(self):
        picture, tree = Picture([[("do", "a"), ("do", "b")]]), Tree.of(2, 0, 1, 2)
        book, rule = some_books()[0], Rule(2, Tree.of(1, 0, 1), Tree.of(2, 0, 1))
        point = book.points()[0]
        council, fact = Council(tree, tree), ("done", 0, "w", 1)
        nine = History([("call", 0, "s", ("read",)), ("answer", 0, "")] * 9)
        firsts = {"s": ""}
        flagged = [[True, True, True]]
        whole = {0: [0, 2]}
        wrong = [
            ("ahead", picture, (0, 0), (0, 0)), ("not ahead", picture, (0, 1), (0, 1)), ("ahead", picture, (0, 0), (0, 2)),
            ("ahead", picture, (0, 0)), ("ahead", picture, (0, 0), (0, 1), 0), ("ahead", [[("do", "a")]], (0, 0), (0, 1)),
            ("perhaps", picture, [[True, True]]), ("never", picture, None), ("perhaps", None, flagged), ("perhaps", picture),
            ("surely", picture, [[1, True, True]]), ("not surely", flagged, picture), ("known along", book, [], fact, point),
            ("known along", book, [2], fact, point), ("unknown", book, [0], None, point), ("unknown", book, [0], fact, None),
            ("known along", picture, [0], fact, point), ("common", book, [], fact, point), ("not common", book, [0, 0], fact, point),
            ("common", None, [0], fact, point), ("meeting", tree), ("meeting", tree, tree.shape), ("apart", 0, tree),
            ("meeting", wide_tree(201), tree), ("apart", tree, wide_tree(201)), ("votes", Tree.of(2, *range(9))), ("trade",),
            ("votes", tree, tree), ("trade", None), ("load within", tree, (2, 4)), ("load above", tree, 1), ("load within", tree),
            ("load above", tree, None), ("load within", tree, (1, 0)), ("load within", tree, [1, 2]), ("load within", 0, (1, 2)),
            ("explained", nine, firsts), ("refused", nine, firsts), ("explained", nine, {}), ("explained", nine.entries(), firsts),
            ("refused", History([]), None), ("plain explained", nine, {"s": "", "t": ""}), ("plain refused", nine, None),
            ("plain explained", History([("call", 0, "s", "do")]), firsts),
            ("plain refused", History([("call", 0, "s", ("write", ""))]), firsts), ("right", rule), ("right", rule, 3),
            ("wrong", rule, True), ("right", None, 0), ("wrong", rule, -1), ("safe", tree), ("safe", council, council), ("two values",),
            ("safe", None), ("can choose", council, [0, 0]), ("barred", council, None), ("barred", council), ("barred", tree, []),
            ("together", picture, whole, [(0, 1)]), ("together", picture, {0: [0, 1]}, []), ("barrier", picture, whole),
            ("barrier", picture, whole, None), ("barrier", None, whole, []), ("undone", picture, whole, [1], (0, 0), []),
            ("undone", picture, whole, [0], (0, 0)), ("remains", picture, whole, [0], (0, 2), []), ("undone", None, whole, [0], (0, 0), []),
            ("remains", picture, whole, [0], (0, 0), [0]), ("remains", picture, None, [0], (0, 0), []), ("alike", rule, [], None),
            ("alike", rule, [("stop", 0)], []), ("different", None, [], []), ("different", rule, []), ("melts", tree), ("", tree), (),
            (None, tree), (tree,), ["meeting", tree, tree], ("Meeting", tree, tree), (("meeting",), tree, tree), "ahead", ("ahead",)]
        for value in wrong + junk():
            self.assertIs(self.yes_or_no(is_claim, value=value), False, value)
            for function in (is_true, contrary, paper_of):
                self.refuse(InvalidClaim, {"value": value}, function, claim=value)
            self.refuse(InvalidClaim, {"value": value}, is_paper, claim=value, value=None)

    def test_any_part(self):
        parts = all_parts()
        for line in LINES:
            told = parts[line[0]][-1]
            for at, part in enumerate(told):
                for value in junk() + variants(part):
                    more = told[:at] + (value,) + told[at + 1:]
                    for word in line:
                        claim = (word, *more)
                        if self.yes_or_no(is_claim, value=claim):
                            self.assertIs(is_true(claim), (word == line[0]) is TRUTHS[line[0]](*more))
                        else:
                            self.refuse(InvalidClaim, {"value": claim}, is_true, claim=claim)

    def test_many_exchanges(self):
        rule = Rule(2, Tree(0), Tree(0))
        run = [("lose", 0)] * 80 + [("lose", 1)] * 60
        claim = ("alike", rule, run, run[::-1])
        self.assertIs(is_claim(claim), True)
        self.assertIs(is_true(claim), True)
        self.refuse(TooMany, {"what": "exchanges", "limit": 4000}, paper_of, claim=claim)
        self.assertIsNone(paper_of(contrary(claim)))
        self.assertIs(is_paper(claim, []), False)

    def test_what_was_told_is_changed(self):
        spots = [(0, 0)]
        claim = ("together", Picture([[("do", "a")]]), {0: [0, 1]}, spots)
        told = contrary(claim)
        self.assertEqual(told, ("barrier",) + claim[1:])
        turned = ("together", Picture([[], []]), {1: (0,), 0: [0]}, ())
        self.assertEqual((list(contrary(turned)[2]), contrary(turned)[2][1]), ([0, 1], (0,)))
        paper = paper_of(("meeting", Tree(0), Tree(0)))
        paper[(0,)].append(1)
        self.assertEqual(paper_of(("meeting", Tree(0), Tree(0))), {(0,): [0]})


if __name__ == "__main__":
    unittest.main()

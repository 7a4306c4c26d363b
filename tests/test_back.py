"""[4], [85], [86], [87]: what is left when houses fall, what is undone, and letters to write down."""

import itertools
import unittest

from oneshelf.back import (are_enough, first_loss, further, is_undoings, left_states, remaining, to_write, undoings,
                           undone, worst)
from oneshelf.errors import InvalidEvent, InvalidFallen, InvalidHouse, InvalidKept, InvalidMany, InvalidWritten
from oneshelf.kept import ends
from oneshelf.pictures import Picture
from support import Case, Dice, all_events, full_picture, is_event_of, is_int, is_listy, junk, variants
from test_kept import KEPT, KNOT
from turned import (heard_by, heard_letters, judge_kept, judge_undoings, kept_pictures, lists_of, own_left, own_remaining,
                    own_undone, said_by)

RELAY = Picture([[("say", 0, 1, "a")], [("hear", 0), ("say", 1, 2, "b")], [("hear", 1)]])


def some_written(rows, seed):
    """Letters written down: none, all, some."""
    letters, dice = heard_letters(rows), Dice(seed)
    found = [[], letters, [letter for letter in letters if dice.below(2)]]
    return found[:1] if not letters else found


def own_to_write(rows, kept):
    found = []
    for house, row in enumerate(rows):
        last = kept[house][-2] if len(kept[house]) > 1 else 0
        told = [place for place, what in enumerate(row) if what[0] == "say" and what[1] in heard_letters(rows)]
        bound = told[-1] + 1 if told else 0
        found += [what[1] for place, what in enumerate(row) if what[0] == "hear" and last <= place < bound]
    return sorted(found)


class TestBack(Case):
    def test_the_document(self):
        self.assertEqual([left_states(RELAY, ends(RELAY), [1], 1), remaining(RELAY, ends(RELAY), [1]),
                          undoings(RELAY, ends(RELAY), [1], (2, 0))], [[0], (1, 0, 0), [(1, 0, None), (2, 0, 1)]])
        self.assertEqual([worst(RELAY, ends(RELAY), 1), further(RELAY, ends(RELAY), [1]), to_write(RELAY, ends(RELAY)),
                          remaining(RELAY, ends(RELAY), [1], [0])], [(3, [1]), (0, (1, 1)), [0], (1, 2, 1)])

    def test_what_is_left_and_undone(self):
        seen = set()
        for k, (picture, rows, kept) in enumerate(kept_pictures(60)):
            for fallen in lists_of(list(range(len(rows))))[::1 + k % 2]:
                for written in some_written(rows, k):
                    told = {"picture": picture, "kept": kept, "fallen": fallen, "written": written}
                    for house in range(len(rows)):
                        left = own_left(rows, kept, fallen, house, written)
                        self.assertEqual(left_states(picture, kept, fallen, house, written), left)
                    self.assertEqual(self.ask(remaining, **told), own_remaining(rows, kept, fallen, written))
                    wanted = own_undone(rows, kept, fallen, written)
                    self.assertEqual(self.ask(undone, **told), wanted)
                    seen.add((min(len(fallen), 2), min(len(wanted), 3)))
                    seen.add(any(house not in fallen for house, _ in wanted))
            self.assertEqual(self.ask(left_states, picture=picture, kept=kept, fallen=fallen, house=0),
                             own_left(rows, kept, fallen, 0, []))
            self.assertEqual(remaining(picture, kept, tuple(fallen)), own_remaining(rows, kept, fallen, []))
            self.assertEqual(undone(picture, kept, fallen[::-1]), own_undone(rows, kept, fallen, []))
        self.assertLessEqual({(0, 0), (1, 0), (1, 1), (1, 2), (1, 3), (2, 3), True, False}, seen)

    def test_rows_of_undoings(self):
        for k, (picture, rows, kept) in enumerate(kept_pictures(60)[::2]):
            for fallen in lists_of(list(range(len(rows))))[1::2]:
                for written in some_written(rows, k):
                    gone = own_undone(rows, kept, fallen, written)
                    for event in all_events(rows):
                        told = {"picture": picture, "kept": kept, "fallen": fallen, "event": event, "written": written}
                        row = undoings(**told)
                        self.assertEqual(row is not None, event in gone)
                        if row is not None:
                            self.assertTrue(judge_undoings(rows, kept, fallen, event, row, written))
                            self.assertIs(is_undoings(picture, kept, fallen, event, row, written), True)
                    if gone:
                        told["event"] = gone[-1]
                        row = self.ask(undoings, **told)
                        same = {"picture": picture, "kept": kept, "fallen": fallen, "event": gone[-1]}
                        self.assertIs(self.yes_or_no(is_undoings, **same, value=tuple(row), written=written), True)

    def test_what_is_a_row_of_undoings(self):
        seen = set()
        for k, (picture, rows, kept) in enumerate(kept_pictures(50)):
            fallen, written = [k % len(rows)], some_written(rows, k)[-1]
            gone = own_undone(rows, kept, fallen, written)
            for event in gone[-2:] + all_events(rows)[:1]:
                row = undoings(picture, kept, fallen, event, written) or []
                more = [row + [(house, state, None)] for house in fallen for state in kept[house]]
                more += [[(house, state, None)] for house in range(len(rows)) for state in kept[house]]
                left = [own_left(rows, kept, fallen, house, written) for house in range(len(rows))]
                more += [[(house, left[house][-1], None)] + row for house in range(len(rows))]
                for letter in heard_letters(rows):
                    heard = heard_by(rows, letter)
                    for house in range(len(rows)):
                        last = (house, max(state for state in left[house] if state <= max(heard[1], 0)), letter)
                        more += [[last], [(fallen[0], left[fallen[0]][-1], None), last], row + [last]]
                for value in variants(row) + more + junk() + [row + row]:
                    told = is_undoings(picture, kept, fallen, event, value, written)
                    self.assertIs(told, judge_undoings(rows, kept, fallen, event, value, written), value)
                    seen.add(told)
                for value in more:
                    last = (value[-1][0], 10 ** 6)
                    for other in [told for told in all_events(rows) if told < last][-1:]:
                        self.assertIs(is_undoings(picture, kept, fallen, other, value, written),
                                      judge_undoings(rows, kept, fallen, other, value, written), value)
        self.assertEqual(seen, {True, False})

    def test_worst(self):
        for k, (picture, rows, kept) in enumerate(kept_pictures(40)):
            for written in some_written(rows, k)[:2]:
                for many in range(len(rows) + 1):
                    counts = {houses: len(own_undone(rows, kept, houses, written))
                              for houses in itertools.combinations(range(len(rows)), many)}
                    most = max(counts.values())
                    wanted = (most, list(min(houses for houses in counts if counts[houses] == most)))
                    self.assertEqual(self.ask(worst, picture=picture, kept=kept, many=many, written=written), wanted)
            self.assertEqual(worst(picture, kept, 0), (0, []))

    def test_further(self):
        seen = set()
        for k, (picture, rows, kept) in enumerate(kept_pictures(40)):
            for fallen in lists_of(list(range(len(rows))))[::3]:
                for written in some_written(rows, k)[:2]:
                    counts = {}
                    for house, row in enumerate(rows):
                        for state in range(len(row)):
                            if state not in kept[house]:
                                more = {**kept, house: sorted([*kept[house], state])}
                                counts[house, state] = len(own_undone(rows, more, fallen, written))
                    wanted = min(((count, spot) for spot, count in counts.items()), default=None)
                    told = {"picture": picture, "kept": kept, "fallen": fallen, "written": written}
                    self.assertEqual(self.ask(further, **told), wanted)
                    seen.add(wanted is None)
        self.assertEqual(seen, {True, False})

    def test_letters_to_write_down(self):
        seen = set()
        for k, (picture, rows, kept) in enumerate(kept_pictures(50)):
            letters = own_to_write(rows, kept)
            self.assertEqual(self.ask(to_write, picture=picture, kept=kept), letters)
            for written in lists_of(heard_letters(rows))[:20] + [letters, heard_letters(rows)[::-1]]:
                losses = [house for house in range(len(rows))
                          if any(event[0] != house for event in own_undone(rows, kept, [house], written))]
                enough = not any(event[0] not in fallen for fallen in lists_of(list(range(len(rows))))
                                 for event in own_undone(rows, kept, fallen, written))
                told = {"picture": picture, "kept": kept, "written": written}
                self.assertIs(self.yes_or_no(are_enough, **told), enough)
                self.assertEqual(enough, all(letter in written for letter in letters))
                self.assertEqual(self.ask(first_loss, **told), losses[0] if losses else None)
                self.assertEqual(losses == [], enough)
                seen.add((enough, len(written) > 0))
        self.assertEqual(len(seen), 4)

    def test_edges(self):
        # A fallen house whose last kept state is its first one, as it has no events.
        idle = Picture([[], [("do", "a"), ("say", 1, 0, "")], [("do", "b")]])
        self.assertEqual([left_states(idle, ends(idle), [0], 0), remaining(idle, ends(idle), [0])], [[0], (0, 2, 1)])
        self.assertEqual(undoings(idle, ends(idle), [0], (1, 0)), None)
        # What needs no hearing is done again.
        self.assertEqual([left_states(idle, ends(idle), [1], 1), undone(idle, ends(idle), [0, 1, 2])], [[0, 1, 2], []])
        self.assertEqual(to_write(idle, ends(idle)), [])
        self.assertEqual([are_enough(idle, ends(idle), []), first_loss(idle, ends(idle), ())], [True, None])
        # Letters written down bring a house that fell past its last kept state.
        self.assertEqual(left_states(RELAY, ends(RELAY), [1], 1, [0]), [0, 1, 2])
        self.assertEqual(left_states(RELAY, ends(RELAY), [2, 1], 2, [0]), [0])
        self.assertEqual(remaining(RELAY, ends(RELAY), [1, 2], [0, 1]), (1, 2, 1))

    def test_the_greatest_pictures(self):
        picture = full_picture()
        rows, kept = picture.rows(), ends(picture)
        self.assertEqual(worst(picture, kept, 6, heard_letters(rows)), (0, [0, 1, 2, 3, 4, 5]))
        number, houses = worst(picture, kept, 3)
        self.assertEqual(number, len(undone(picture, kept, houses)))
        self.assertEqual(to_write(picture, kept), own_to_write(rows, kept))
        event = undone(picture, kept, [0])[-1]
        row = undoings(picture, kept, [0], event)
        self.assertTrue(judge_undoings(rows, kept, [0], event, row, []))
        self.assertEqual(further(picture, {house: list(range(len(states) + 1)) for house, states in enumerate(rows)},
                                 [0]), None)
        self.assertEqual(said_by(rows, heard_letters(rows)[0])[0] != heard_by(rows, heard_letters(rows)[0])[0], True)


class TestErrors(Case):
    def calls(self, kept=KEPT, fallen=(0,), event=(0, 0), house=0, many=0, written=()):
        """All calls, as tuples of a function and what it is passed."""
        base = {"picture": KNOT, "kept": kept}
        with_fallen = {**base, "fallen": fallen}
        return [(left_states, {**with_fallen, "house": house, "written": written}),
                (remaining, {**with_fallen, "written": written}), (undone, {**with_fallen, "written": written}),
                (undoings, {**with_fallen, "event": event, "written": written}),
                (is_undoings, {**with_fallen, "event": event, "value": None, "written": written}),
                (worst, {**base, "many": many, "written": written}), (further, {**with_fallen, "written": written}),
                (to_write, base), (are_enough, {**base, "written": written}), (first_loss, {**base, "written": written})]

    def refuse_all(self, wanted, told, names, **passed):
        for function, named in self.calls(**passed):
            if any(name in named for name in names):
                self.refuse(wanted, told, function, **named)

    def test_kept(self):
        for value in junk() + variants(KEPT)[:60]:
            if not judge_kept(KNOT.rows(), value):
                self.refuse_all(InvalidKept, {"value": value}, ["kept"], kept=value, fallen=None, event=None, house=None,
                                many=None, written=None)

    def test_fallen(self):
        for value in junk():
            if not is_listy(value):
                self.refuse_all(InvalidFallen, {"position": None}, ["fallen"], fallen=value, event=None, house=None,
                                written=None)
            if not (is_int(value) and 0 <= value < 2):
                self.refuse_all(InvalidFallen, {"position": 1}, ["fallen"], fallen=[1, value, 9], event=None, house=None,
                                written=None)
        for value in ([0, 0], [0, 2], [1, -1], [0, True], (1, False)):
            self.refuse_all(InvalidFallen, {"position": 1}, ["fallen"], fallen=value, written=None)

    def test_houses_events_and_numbers(self):
        for value in junk() + [2, 3]:
            if not (is_int(value) and 0 <= value < 2):
                self.refuse_all(InvalidHouse, {"value": value}, ["house"], house=value, written=None)
            if not is_event_of(KNOT.rows(), value):
                self.refuse_all(InvalidEvent, {"value": value}, ["event"], event=value, written=None)
            if not (is_int(value) and 0 <= value <= 2):
                self.refuse_all(InvalidMany, {"value": value}, ["many"], many=value, written=None)

    def test_written(self):
        for value in junk():
            if not is_listy(value):
                self.refuse_all(InvalidWritten, {"position": None}, ["written"], written=value)
            if not (is_int(value) and value in (0, 1)):
                self.refuse_all(InvalidWritten, {"position": 1}, ["written"], written=[0, value])
        for value in ([1, 1], [0, 2], [0, True], (1, False)):
            self.refuse_all(InvalidWritten, {"position": 1}, ["written"], written=value)
        unheard = Picture([[("say", 3, 1, ""), ("say", 4, 1, "")], [("hear", 4)]])
        self.refuse(InvalidWritten, {"position": 0}, are_enough, picture=unheard, kept=ends(unheard), written=[3])
        self.assertIs(are_enough(unheard, ends(unheard), [4]), True)

    def test_what_was_told_is_changed(self):
        kept = {0: [0, 2], 1: [0, 2]}
        told = undone(KNOT, kept, [0])
        told.append("spoilt")
        left_states(KNOT, kept, [0], 0).append(9)
        worst(KNOT, kept, 1)[1].append(9)
        self.assertEqual(undone(KNOT, kept, [0]), told[:-1])
        self.assertEqual(worst(KNOT, kept, 1)[1], [0])
        self.assertEqual(kept, {0: [0, 2], 1: [0, 2]})


if __name__ == "__main__":
    unittest.main()

"""[82], [83], [84]: zigzags, straight ones, barriers, what is tracked, and in order."""

import unittest

from oneshelf.errors import InvalidKept, InvalidSpot, InvalidSpots
from oneshelf.kept import ends
from oneshelf.pictures import Picture
from oneshelf.zigzags import (barrier, is_barrier, is_straight, is_tracked, is_zigzag, out_of_order, straight, untracked,
                              zigzag)
from support import Case, all_events, full_picture, is_listy, junk, said_by, variants
from test_kept import KEPT, KNOT, spot_lists
from turned import (first_zigzag, heard_by, heard_letters, judge_kept, judge_spot, judge_zigzag, kept_cuts,
                    kept_pictures, spots_of, stretch, zigzags_of)


def own_untracked(rows, kept):
    for one in spots_of(kept):
        for other in spots_of(kept):
            if other[0] == one[0] and other[1] > one[1]:
                continue
            if first_zigzag(rows, kept, one, other) and not first_zigzag(rows, kept, one, other, True):
                return (one, other)
    return None


def own_out_of_order(rows, kept):
    found = []
    for letter in heard_letters(rows):
        for other in heard_letters(rows):
            saying, hearing = said_by(rows, letter), heard_by(rows, other)
            if saying[0] == hearing[0] and saying[1] < hearing[1] and stretch(kept, saying) == stretch(kept, hearing):
                found.append((saying[0], saying[1], hearing[1]))
    return min(found, default=None)


def judge_barrier(rows, kept, spots, value):
    if type(value) is not tuple or len(value) != 3:
        return False
    for spot in (value[0], value[2]):
        if not judge_spot(kept, spot) or spot not in spots:
            return False
    return judge_zigzag(rows, kept, value[0], value[2], value[1])


class TestZigzags(Case):
    def test_the_document(self):
        self.assertEqual([zigzag(KNOT, KEPT, (0, 1), (0, 1)), straight(KNOT, KEPT, (0, 1), (0, 1)), untracked(KNOT, KEPT),
                          out_of_order(KNOT, KEPT)], [[0, 1], None, ((0, 1), (0, 1)), (1, 0, 1)])

    def test_by_trying_all_lists_of_letters(self):
        seen = set()
        for picture, rows, kept in kept_pictures(60):
            if len(heard_letters(rows)) > 4:
                continue
            for one in spots_of(kept)[::2]:
                for other in spots_of(kept):
                    for function, judge, direct in ((zigzag, is_zigzag, False), (straight, is_straight, True)):
                        told = {"picture": picture, "kept": kept, "one": one, "other": other}
                        found = zigzags_of(rows, kept, one, other, 3, direct)
                        first = self.ask(function, **told)
                        for value in found[:3]:
                            self.assertIs(self.yes_or_no(judge, **told, value=value), True)
                            self.assertIs(judge(picture, kept, one, other, tuple(value)), True)
                        if found:
                            self.assertEqual(first, found[0])
                        elif first is not None:
                            self.assertGreater(len(first), 3)
                            self.assertTrue(judge_zigzag(rows, kept, one, other, first, direct))
                        seen.add((direct, None if first is None else min(len(first), 3)))
        self.assertEqual(seen, {(direct, many) for direct in (True, False) for many in (None, 1, 2, 3)})

    def test_by_going_from_letter_to_letter(self):
        for picture, rows, kept in kept_pictures(75, 11)[40:]:
            for one in spots_of(kept):
                for other in spots_of(kept)[::2]:
                    self.assertEqual(zigzag(picture, kept, one, other), first_zigzag(rows, kept, one, other))
                    self.assertEqual(straight(picture, kept, one, other), first_zigzag(rows, kept, one, other, True))

    def test_what_is_a_zigzag(self):
        seen = set()
        for picture, rows, kept in kept_pictures(45)[10:]:
            spots = spots_of(kept)
            for k, one in enumerate(spots[:5]):
                other = spots[(3 * k + 1) % len(spots)]
                found = first_zigzag(rows, kept, one, other) or heard_letters(rows)[:2]
                longer = [found + found, found + found[-1:], found[:1] + found]
                for value in variants(found) + longer + junk():
                    for judge, direct in ((is_zigzag, False), (is_straight, True)):
                        told = judge(picture, kept, one, other, value)
                        self.assertIs(told, judge_zigzag(rows, kept, one, other, value, direct), value)
                        seen.add((told, direct))
        self.assertEqual(len(seen), 4)

    def test_a_zigzag_with_a_letter_more_than_once(self):
        ring = Picture([[("say", 0, 1, ""), ("hear", 1)], [("hear", 0), ("say", 1, 0, "")]])
        kept = ends(ring)
        for value in ([0, 1], [0, 1, 0, 1], [0, 1] * 50):
            self.assertIs(is_zigzag(ring, kept, (0, 0), (0, 2), value), True)
            self.assertIs(is_straight(ring, kept, (0, 0), (0, 2), value), len(value) == 2)
        self.assertIs(is_zigzag(ring, kept, (0, 0), (1, 2), [0, 1, 0]), True)
        self.assertIs(is_zigzag(ring, kept, (0, 0), (1, 2), [0, 0]), False)
        self.assertEqual(zigzag(ring, kept, (0, 0), (0, 2)), [0, 1])

    def test_a_letter_said_ahead_of_the_hearing(self):
        rows = [[("say", 3, 1, "")], [("say", 7, 2, ""), ("hear", 3)], [("hear", 7)]]
        picture = Picture(rows)
        self.assertEqual(zigzag(picture, ends(picture), (0, 0), (2, 1)), [3, 7])
        self.assertIsNone(straight(picture, ends(picture), (0, 0), (2, 1)))
        apart = {0: [0, 1], 1: [0, 1, 2], 2: [0, 1]}
        self.assertIsNone(zigzag(picture, apart, (0, 0), (2, 1)))
        unheard = Picture([[("say", 3, 1, "")], [("do", "a")]])
        self.assertIsNone(zigzag(unheard, ends(unheard), (0, 0), (1, 1)))
        self.assertIs(is_zigzag(unheard, ends(unheard), (0, 0), (1, 1), [3]), False)

    def test_barriers(self):
        seen = set()
        for picture, rows, kept in kept_pictures(60):
            cuts = kept_cuts(rows, kept)
            for spots in spot_lists(kept, 30):
                fit = any(all(cut[house] == state for house, state in spots) for cut in cuts)
                told = self.ask(barrier, picture=picture, kept=kept, spots=spots)
                seen.add((fit, min(len(spots), 2)))
                if fit:
                    self.assertIsNone(told)
                else:
                    self.assertTrue(judge_barrier(rows, kept, spots, told))
                    self.assertIs(self.yes_or_no(is_barrier, picture=picture, kept=kept, spots=spots, value=told), True)
        self.assertEqual(seen, {(True, 0), (True, 1), (True, 2), (False, 1), (False, 2)})

    def test_what_is_a_barrier(self):
        for picture, rows, kept in kept_pictures(60)[::2]:
            for spots in spot_lists(kept, 8):
                told = barrier(picture, kept, spots)
                values = junk() + [(one, heard_letters(rows)[:1], other) for one in spots for other in spots_of(kept)[::3]]
                for value in values + ([] if told is None else variants(told)):
                    self.assertIs(is_barrier(picture, kept, spots, value), judge_barrier(rows, kept, spots, value), value)

    def test_tracked(self):
        seen = set()
        for picture, rows, kept in kept_pictures(90):
            wanted = own_untracked(rows, kept)
            self.assertEqual(self.ask(untracked, picture=picture, kept=kept), wanted)
            self.assertIs(self.yes_or_no(is_tracked, picture=picture, kept=kept), wanted is None)
            order = own_out_of_order(rows, kept)
            self.assertEqual(self.ask(out_of_order, picture=picture, kept=kept), order)
            self.assertTrue(order is not None or wanted is None)
            seen.add((order is None, wanted is None))
        self.assertEqual(seen, {(True, True), (False, True), (False, False)})

    def test_the_greatest_pictures(self):
        picture = full_picture()
        every = {house: list(range(size + 1)) for house, size in enumerate(picture.sizes())}
        self.assertEqual([out_of_order(picture, every), untracked(picture, every)], [None, None])
        rows, kept = picture.rows(), ends(picture)
        self.assertEqual(out_of_order(picture, kept), own_out_of_order(rows, kept))
        found = zigzag(picture, kept, (0, 0), (0, len(rows[0])))
        self.assertTrue(found is None or judge_zigzag(rows, kept, (0, 0), (0, len(rows[0])), found))
        self.assertEqual(len(all_events(rows)), 120)

    def test_errors(self):
        one = {"one": (0, 0), "other": (1, 0)}
        for value in junk() + variants(KEPT)[:40]:
            if not judge_kept(KNOT.rows(), value):
                told = {"value": value}
                for function in (zigzag, straight):
                    self.refuse(InvalidKept, told, function, picture=KNOT, kept=value, one=None, other=None)
                for function in (is_zigzag, is_straight):
                    self.refuse(InvalidKept, told, function, picture=KNOT, kept=value, one=None, other=None, value=None)
                for function in (untracked, is_tracked, out_of_order):
                    self.refuse(InvalidKept, told, function, picture=KNOT, kept=value)
                self.refuse(InvalidKept, told, barrier, picture=KNOT, kept=value, spots=None)
                self.refuse(InvalidKept, told, is_barrier, picture=KNOT, kept=value, spots=None, value=None)
        for value in junk() + [(0, 3), (1, 1), (2, 0), (0, True), [0, 1]]:
            if not judge_spot(KEPT, value):
                told = {"value": value}
                for function in (zigzag, straight):
                    self.refuse(InvalidSpot, told, function, picture=KNOT, kept=KEPT, one=value, other=None)
                    self.refuse(InvalidSpot, told, function, picture=KNOT, kept=KEPT, one=(0, 1), other=value)
                for function in (is_zigzag, is_straight):
                    self.refuse(InvalidSpot, told, function, picture=KNOT, kept=KEPT, one=value, other=None, value=None)
                    self.refuse(InvalidSpot, told, function, picture=KNOT, kept=KEPT, one=(0, 1), other=value, value=[])
                self.refuse(InvalidSpots, {"position": 1}, barrier, picture=KNOT, kept=KEPT, spots=[(0, 0), value])
            if not is_listy(value):
                self.refuse(InvalidSpots, {"position": None}, is_barrier, picture=KNOT, kept=KEPT, spots=value, value=None)
        self.assertEqual(len(one), 2)


if __name__ == "__main__":
    unittest.main()

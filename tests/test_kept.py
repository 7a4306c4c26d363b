"""[81], [83]: kept states, kept cuts with told spots, and useless spots."""

import itertools
import unittest

from oneshelf.errors import InvalidKept, InvalidSpots
from oneshelf.kept import ends, greatest_kept_cut, is_kept, least_kept_cut, useless
from oneshelf.pictures import Picture
from support import Case, full_picture, is_listy, junk, variants
from turned import judge_kept, judge_spot, kept_cuts, kept_pictures, spots_of

KNOT = Picture([[("hear", 1), ("say", 0, 1, "a")], [("say", 1, 0, "b"), ("hear", 0)]])
KEPT = {0: [0, 1, 2], 1: [0, 2]}


def spot_lists(kept, many):
    """Lists of spots of unlike houses, of all numbers."""
    found = []
    houses = sorted(kept)
    for count in range(len(houses) + 1):
        for some in itertools.combinations(houses, count):
            found += [[(house, state) for house, state in zip(some, states)]
                      for states in itertools.product(*[kept[house] for house in some])]
    return found[::max(1, len(found) // many)]


class TestKept(Case):
    def test_the_document(self):
        self.assertEqual([least_kept_cut(KNOT, KEPT, [(0, 2)]), greatest_kept_cut(KNOT, KEPT, [(0, 1)]),
                          useless(KNOT, KEPT)], [(2, 2), None, [(0, 1)]])

    def test_ends(self):
        for picture, rows, _ in kept_pictures():
            wanted = {house: [0, len(row)] if row else [0] for house, row in enumerate(rows)}
            self.assertEqual(self.ask(ends, picture=picture), wanted)
            self.assertEqual(list(ends(picture)), list(range(len(rows))))
            self.assertIs(is_kept(picture, ends(picture)), True)
        self.assertEqual(ends(Picture([[], [("do", "a")]])), {0: [0], 1: [0, 1]})

    def test_what_is_kept(self):
        seen = set()
        for picture, rows, kept in kept_pictures(30):
            tuples = {house: tuple(states) for house, states in reversed(list(kept.items()))}
            for value in junk() + variants(kept) + [tuples]:
                told = self.yes_or_no(is_kept, picture=picture, value=value)
                self.assertIs(told, judge_kept(rows, value), value)
                seen.add(told)
        self.assertEqual(seen, {True, False})
        one = Picture([[("do", "a")], []])
        for value in ({0: [0, 1], 1: [0, 0]}, {0: [0, True], 1: [0]}, {False: [0, 1], 1: [0]}, {0: [0, 1], True: [0]},
                      {0: [0, 1]}, {0: [0], 1: [0]}, {0: [1], 1: [0]}, {0: [0, 1], 1: []}, {0: [0, 1], 1: [0], 2: [0]}):
            self.assertIs(is_kept(one, value), False, value)

    def test_by_trying_all_cuts(self):
        seen = set()
        for picture, rows, kept in kept_pictures():
            cuts = kept_cuts(rows, kept)
            for spots in spot_lists(kept, 60):
                fit = [cut for cut in cuts if all(cut[house] == state for house, state in spots)]
                told = {"picture": picture, "kept": kept, "spots": spots}
                least = tuple(min(cut[k] for cut in fit) for k in range(len(rows))) if fit else None
                greatest = tuple(max(cut[k] for cut in fit) for k in range(len(rows))) if fit else None
                self.assertEqual(self.ask(least_kept_cut, **told), least)
                self.assertEqual(self.ask(greatest_kept_cut, **told), greatest)
                self.assertTrue(not fit or (least in fit and greatest in fit))
                self.assertEqual(least_kept_cut(picture, kept, tuple(spots[::-1])), least)
                seen.add((len(fit) > 0, len(spots)))
            self.assertEqual(least_kept_cut(picture, kept), (0,) * len(rows))
            self.assertEqual(greatest_kept_cut(picture, kept), tuple(len(row) for row in rows))
        self.assertLessEqual({(True, 0), (True, 1), (False, 1), (True, 2), (False, 2), (True, 3)}, seen)

    def test_useless_spots(self):
        some = 0
        for picture, rows, kept in kept_pictures(300):
            cuts = kept_cuts(rows, kept)
            wanted = [(house, state) for house, state in spots_of(kept) if not any(cut[house] == state for cut in cuts)]
            self.assertEqual(self.ask(useless, picture=picture, kept=kept), wanted)
            turned = {house: tuple(kept[house]) for house in sorted(kept, reverse=True)}
            self.assertEqual(useless(picture, turned), wanted)
            some += len(wanted) > 0
        self.assertGreater(some, 10)

    def test_letters_that_are_never_heard(self):
        picture = Picture([[("say", 0, 1, ""), ("do", "a")], [("do", "b")]])
        kept = {0: [0, 1, 2], 1: [0, 1]}
        self.assertEqual([least_kept_cut(picture, kept, [(0, 1), (1, 0)]), useless(picture, kept)], [(1, 0), []])

    def test_the_greatest_pictures(self):
        picture = full_picture()
        for kept in (ends(picture), {house: list(range(size + 1)) for house, size in enumerate(picture.sizes())}):
            self.assertEqual(least_kept_cut(picture, kept), (0,) * 6)
            self.assertEqual(greatest_kept_cut(picture, kept), picture.sizes())
            if len(kept[0]) > 2:
                self.assertEqual(useless(picture, kept), [])

    def test_wrong_kept(self):
        for value in junk() + variants(KEPT):
            if not judge_kept(KNOT.rows(), value):
                told = {"value": value}
                self.refuse(InvalidKept, told, useless, picture=KNOT, kept=value)
                for function in (least_kept_cut, greatest_kept_cut):
                    self.refuse(InvalidKept, told, function, picture=KNOT, kept=value, spots=None)

    def test_wrong_spots(self):
        good = [(0, 1), (1, 2)]
        for function in (least_kept_cut, greatest_kept_cut):
            for value in junk():
                if not is_listy(value):
                    self.refuse(InvalidSpots, {"position": None}, function, picture=KNOT, kept=KEPT, spots=value)
                if not judge_spot(KEPT, value):
                    self.refuse(InvalidSpots, {"position": 1}, function, picture=KNOT, kept=KEPT,
                                spots=[(1, 0), value, None])
            for value in ((1, 1), (0, 3), (2, 0), (0, -1), (0, 1, 0), [0, 1], (True, 0), (0, True), (0, 1), (0, 2)):
                self.refuse(InvalidSpots, {"position": 1}, function, picture=KNOT, kept=KEPT, spots=[(0, 0), value])
            self.refuse(InvalidSpots, {"position": 2}, function, picture=KNOT, kept=KEPT, spots=good + [(1, 0)])

    def test_what_was_told_is_changed(self):
        told = ends(KNOT)
        told[0].append(7)
        self.assertEqual(ends(KNOT), {0: [0, 2], 1: [0, 2]})


if __name__ == "__main__":
    unittest.main()

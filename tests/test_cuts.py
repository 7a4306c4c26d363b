"""[12], [15], [16]: cuts, least and greatest ones, pulls, letters on the way, and noting."""

import itertools
import unittest

from oneshelf.cuts import (all_cuts, are_pulls, greatest_cut, is_cut, least_cut, line_through, noted, on_the_way, pulls)
from oneshelf.errors import InvalidCut, InvalidEvent, InvalidLine, InvalidPlaces, TooMany
from oneshelf.pictures import Picture, least_line
from support import (Case, Dice, full_picture, grid, is_event_of, is_int, is_listy, junk, line_fault, said_by,
                     small_pictures, talkative_pictures, try_cuts, try_lines, variants, walk)

PICTURE = Picture([[("do", "a"), ("say", 5, 1, "x")], [("hear", 5), ("do", "b")], [("do", "c")]])


def is_within(one, other):
    return all(count <= another for count, another in zip(one, other))


def all_places(rows):
    return list(itertools.product(*[range(len(row) + 1) for row in rows]))


def is_places(rows, value):
    return type(value) is tuple and all(is_int(part) for part in value) and value in all_places(rows)


def judge_pulls(rows, places, value):
    if not is_listy(value):
        return False
    now = list(places)
    for pull in value:
        if not is_event_of(rows, pull) or pull[1] >= now[pull[0]]:
            return False
        what = rows[pull[0]][pull[1]]
        if what[0] != "hear":
            return False
        said = said_by(rows, what[1])
        if said[1] < now[said[0]]:
            return False
        now[pull[0]] = pull[1]
    return tuple(now) in try_cuts(rows)


def try_noted(rows, line, places):
    """What the houses note, in the words of [16], looked at ahead of each event and behind all."""
    notes, done, said_late = {}, [0] * len(rows), set()
    for house in line:
        what = rows[house][done[house]]
        if house not in notes and (done[house] == places[house] or what[0] == "hear" and what[1] in said_late):
            notes[house] = done[house]
        if what[0] == "say" and house in notes:
            said_late.add(what[1])
        done[house] += 1
    return tuple(notes.get(house, len(row)) for house, row in enumerate(rows))


class TestExamples(Case):
    def test_the_document(self):
        self.assertEqual(len(self.ask(all_cuts, picture=PICTURE)), 10)
        self.assertEqual(self.ask(least_cut, picture=PICTURE, events=[(1, 0), (2, 0)]), (2, 1, 1))
        self.assertEqual(self.ask(greatest_cut, picture=PICTURE, places=(1, 2, 1)), (1, 0, 1))
        self.assertEqual(self.ask(pulls, picture=PICTURE, places=(1, 2, 1)), [(1, 0)])


class TestWhatIsACut(Case):
    def test_by_trying_all(self):
        for picture in small_pictures():
            rows = picture.rows()
            cuts = try_cuts(rows)
            for places in all_places(rows):
                self.assertIs(self.yes_or_no(is_cut, picture=picture, value=places), places in cuts)
            for value in [value for cut in cuts[:3] + cuts[-3:] for value in variants(cut)]:
                self.assertIs(is_cut(picture, value), is_places(rows, value) and value in cuts, value)

    def test_any_value(self):
        for picture in small_pictures()[:9]:
            rows = picture.rows()
            for value in junk():
                told = self.yes_or_no(is_cut, picture=picture, value=value)
                self.assertIs(told, is_places(rows, value) and value in try_cuts(rows), value)

    def test_all_cuts(self):
        for picture in small_pictures():
            self.assertEqual(self.ask(all_cuts, picture=picture), try_cuts(picture.rows()))

    def test_two_thousand_and_more(self):
        sizes = (19, 9, 9)
        rows = [[("do", "a")] * size for size in sizes]
        self.assertEqual(all_cuts(Picture(rows)), all_places(rows))
        self.assertEqual(len(all_cuts(Picture(rows))), 2000)
        for sizes in ((2, 22, 28), (20, 9, 9), (20,) * 6, (60, 60)):
            picture = Picture([[("do", "a")] * size for size in sizes])
            self.refuse(TooMany, {"what": "cuts", "limit": 2000}, all_cuts, picture=picture)
        self.assertEqual(len(all_cuts(Picture([[("do", "a")] * 120]))), 121)

    def test_two_thousand_by_a_letter(self):
        # Without the letter there are 44 * 46 cuts; it takes away those that hear it without saying it.
        for early, late, many in ((10, 43, 2001), (11, 43, 2002), (8, 42, 2001), (9, 44, 2006)):
            told = 44 * 46 - early * (46 - late)
            rows = [[("do", "")] * (early - 1) + [("say", 0, 1, "")] + [("do", "")] * (43 - early),
                    [("do", "")] * (late - 1) + [("hear", 0)] + [("do", "")] * (45 - late)]
            if told > 2000:
                self.refuse(TooMany, {"what": "cuts", "limit": 2000}, all_cuts, picture=Picture(rows))
            else:
                self.assertEqual(len(all_cuts(Picture(rows))), told)


class TestLeastCuts(Case):
    def test_by_trying_all(self):
        for number, picture in enumerate(small_pictures()):
            rows, dice = picture.rows(), Dice(number)
            cuts = try_cuts(rows)
            for size in (0, 1, 2, 3):
                for _ in range(4):
                    events = [dice.one_of(picture.events()) for _ in range(size if len(picture) else 0)]
                    having = [cut for cut in cuts if all(place < cut[house] for house, place in events)]
                    told = self.ask(least_cut, picture=picture, events=events)
                    self.assertIn(told, having)
                    self.assertTrue(all(is_within(told, cut) for cut in having))
                    self.assertEqual(least_cut(picture, tuple(events)), told)

    def test_none_and_all(self):
        for picture in small_pictures() + [full_picture()]:
            self.assertEqual(least_cut(picture, []), (0,) * picture.houses)
            self.assertEqual(least_cut(picture, picture.events()), tuple(len(row) for row in picture.rows()))

    def test_wrong_events(self):
        for value in junk():
            if not is_listy(value):
                self.refuse(InvalidEvent, {"value": value}, least_cut, picture=PICTURE, events=value)
            if not is_event_of(PICTURE.rows(), value):
                for events in ([value], [(1, 0), value, None], ((0, 0), (0, 0), value, (7, 7))):
                    self.refuse(InvalidEvent, {"value": value}, least_cut, picture=PICTURE, events=events)
        self.refuse(InvalidEvent, {"value": (0, 2)}, least_cut, picture=PICTURE, events=[(0, 1), (0, 2), (3, 0)])
        self.refuse(InvalidEvent, {"value": 0}, least_cut, picture=PICTURE, events=(0, 0))


class TestGreatestCuts(Case):
    def test_by_trying_all(self):
        for picture in small_pictures() + talkative_pictures():
            rows = picture.rows()
            cuts = try_cuts(rows)
            for places in all_places(rows):
                within = [cut for cut in cuts if is_within(cut, places)]
                told = self.ask(greatest_cut, picture=picture, places=places)
                self.assertIn(told, within)
                self.assertTrue(all(is_within(cut, told) for cut in within))
                steps = self.ask(pulls, picture=picture, places=places)
                self.assertIs(judge_pulls(rows, places, steps), True)
                self.assertIs(self.yes_or_no(are_pulls, picture=picture, places=places, value=steps), True)
                self.assertIs(are_pulls(picture, places, tuple(steps)), True)

    def test_what_are_pulls(self):
        for number, picture in enumerate(small_pictures() + talkative_pictures(12)):
            rows, dice = picture.rows(), Dice(number)
            for places in all_places(rows)[::4]:
                told = pulls(picture, places)
                hearings = [event for event in picture.events() if picture[event][0] == "hear"]
                tried = [[dice.one_of(hearings) for _ in range(k % 4)] for k in range(12 if hearings else 0)]
                tried += [[list(event) for event in told], [event for event in told[::-1]]]
                for value in variants(told) + tried:
                    self.assertIs(are_pulls(picture, places, value), judge_pulls(rows, places, value), value)

    def test_any_value(self):
        for places in ((1, 2, 1), (2, 2, 1), (0, 0, 0)):
            for value in junk():
                told = self.yes_or_no(are_pulls, picture=PICTURE, places=places, value=value)
                self.assertIs(told, judge_pulls(PICTURE.rows(), places, value), value)

    def test_at_the_limits(self):
        picture = full_picture()
        sizes = tuple(len(row) for row in picture.rows())
        self.assertEqual(greatest_cut(picture, sizes), sizes)
        for places in (tuple(size // 2 for size in sizes), (0,) + sizes[1:], sizes[:-1] + (2,), sizes[:2] + (0,) * 4):
            told = greatest_cut(picture, places)
            self.assertIs(is_cut(picture, told), True)
            self.assertTrue(is_within(told, places))
            steps = pulls(picture, places)
            self.assertGreater(len(steps), 0)
            self.assertIs(are_pulls(picture, places, steps), True)
            self.assertIs(are_pulls(picture, places, steps[:-1]), False)

    def test_wrong_places(self):
        for picture in small_pictures()[::4] + [PICTURE]:
            rows = picture.rows()
            sizes = tuple(len(row) for row in rows)
            for value in junk() + variants(sizes) + variants((0,) * len(rows)):
                if not is_places(rows, value):
                    self.refuse(InvalidPlaces, {"value": value}, greatest_cut, picture=picture, places=value)
                    self.refuse(InvalidPlaces, {"value": value}, pulls, picture=picture, places=value)
                    self.refuse(InvalidPlaces, {"value": value}, are_pulls, picture=picture, places=value, value=[])
                    self.refuse(InvalidPlaces, {"value": value}, noted, picture=picture, line=least_line(picture),
                                places=value)


class TestLinesThrough(Case):
    def test_by_trying_all(self):
        for picture in small_pictures():
            rows = picture.rows()
            passed = [(line, walk(rows, line)[0]) for line in try_lines(rows)]
            for cut in try_cuts(rows):
                right = [line for line, cuts in passed if cut in cuts]
                self.assertEqual(self.ask(line_through, picture=picture, cut=cut), right[0])

    def test_on_the_way(self):
        for picture in small_pictures():
            rows = picture.rows()
            for cut in try_cuts(rows):
                done = [rows[house][place] for house, place in picture.events() if place < cut[house]]
                right = sorted(what[1] for what in done if what[0] == "say" and ("hear", what[1]) not in done)
                self.assertEqual(self.ask(on_the_way, picture=picture, cut=cut), right)

    def test_letters_that_are_never_heard(self):
        picture = Picture([[("say", 9, 1, ""), ("say", 2, 1, ""), ("say", 5, 1, "")], [("hear", 2)]])
        self.assertEqual(on_the_way(picture, (3, 1)), [5, 9])
        self.assertEqual(on_the_way(picture, (3, 0)), [2, 5, 9])
        self.assertEqual(on_the_way(picture, (0, 0)), [])

    def test_wrong_cuts(self):
        for picture in small_pictures()[::4] + [PICTURE]:
            rows = picture.rows()
            cuts = try_cuts(rows)
            for value in junk() + variants(cuts[-1]) + variants(cuts[0]) + all_places(rows):
                if not (is_places(rows, value) and value in cuts):
                    self.refuse(InvalidCut, {"value": value}, line_through, picture=picture, cut=value)
                    self.refuse(InvalidCut, {"value": value}, on_the_way, picture=picture, cut=value)

    def test_at_the_limits(self):
        picture = full_picture()
        cut = greatest_cut(picture, tuple(len(row) // 2 for row in picture.rows()))
        line = line_through(picture, cut)
        self.assertIn(cut, walk(picture.rows(), line)[0])
        self.assertEqual(line[:sum(cut)], least_line(picture.beginning(cut)))


class TestNoting(Case):
    def test_by_trying_all(self):
        for picture in small_pictures() + talkative_pictures():
            rows = picture.rows()
            lines = try_lines(rows)
            for line in lines[::19] + lines[-1:]:
                for places in all_places(rows):
                    told = self.ask(noted, picture=picture, line=line, places=places)
                    self.assertEqual(told, try_noted(rows, line, places))
                    self.assertEqual(told, greatest_cut(picture, places))

    def test_at_the_limits(self):
        picture = full_picture()
        line = least_line(picture)
        for places in (tuple(len(row) // 2 for row in picture.rows()), tuple(len(row) for row in picture.rows())):
            self.assertEqual(noted(picture, line, places), greatest_cut(picture, places))

    def test_wrong_lines(self):
        rows = PICTURE.rows()
        lines = try_lines(rows)
        for value in junk() + variants(lines[0]) + variants(lines[-1]):
            good, position = line_fault(rows, lines, value)
            if not good:
                for places in ((0, 0, 0), None, (9, 9, 9)):
                    self.refuse(InvalidLine, {"position": position}, noted, picture=PICTURE, line=value, places=places)
        self.refuse(InvalidPlaces, {"value": [0, 0, 0]}, noted, picture=PICTURE, line=lines[0], places=[0, 0, 0])


class TestNothingChanges(Case):
    def test_arguments(self):
        events, line, steps = [(1, 0), (2, 0)], [0, 0, 1, 1, 2], [(1, 0)]
        least_cut(PICTURE, events)
        noted(PICTURE, line, (1, 2, 1))
        are_pulls(PICTURE, (1, 2, 1), steps)
        self.assertEqual((events, line, steps), ([(1, 0), (2, 0)], [0, 0, 1, 1, 2], [(1, 0)]))
        told = all_cuts(PICTURE)
        told.clear()
        self.assertEqual(len(all_cuts(PICTURE)), 10)
        self.assertEqual(len(all_cuts(grid(2, 2))), 9)


if __name__ == "__main__":
    unittest.main()

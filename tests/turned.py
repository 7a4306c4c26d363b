"""Pictures with kept states for the tests, and how far houses go back in them, worked out by trying all."""

import itertools

from oneshelf.pictures import Picture
from support import Dice, all_events, is_int, is_listy, said_by, small_pictures, talkative_pictures, try_cuts


def some_kept(rows, seed):
    """Kept states of rows: some, few or all of the inner ones."""
    dice = Dice(seed)
    found = {}
    for house, row in enumerate(rows):
        inner = [state for state in range(1, len(row)) if dice.below(4) < seed % 5]
        found[house] = sorted({0, len(row), *inner})
    return found


def chatty_rows(seed, houses, events):
    """Rows of letters alone, most of which are heard, but often when later ones have been said."""
    dice = Dice(seed + 700)
    rows, waiting, letters = [[] for _ in range(houses)], [], 0
    while sum(len(row) for row in rows) < events:
        if waiting and dice.below(2):
            letter, to = waiting.pop(dice.below(len(waiting)))
            rows[to].append(("hear", letter))
        else:
            house = dice.below(houses)
            to = (house + 1 + dice.below(houses - 1)) % houses
            rows[house].append(("say", (letters * 5) % 17, to, "x"))
            waiting.append(((letters * 5) % 17, to))
            letters += 1
    return rows


def kept_pictures(many=60, events=8):
    """Tuples of pictures, their rows and kept states."""
    relay = [[("say", 4, 1, "")], [("hear", 4), ("say", 2, 2, "")], [("hear", 2), ("say", 9, 0, ""), ("do", "a")]]
    relay[0].append(("hear", 9))
    found = [(Picture(relay), relay, {0: [0, 1, 2], 1: [0, 2], 2: [0, 1, 3]})]
    for k, picture in enumerate(small_pictures()[:many // 5] + talkative_pictures(many // 5)):
        found.append((picture, picture.rows(), some_kept(picture.rows(), k)))
    seed = 0
    while len(found) < many:
        seed += 1
        rows = chatty_rows(seed, 2 + seed % 3, events + seed % 4)
        found.append((Picture(rows), rows, some_kept(rows, seed)))
    return found


def judge_kept(rows, value):
    if type(value) is not dict or not all(is_int(house) for house in value) or set(value) != set(range(len(rows))):
        return False
    for house, row in enumerate(rows):
        states = value[house]
        if not is_listy(states) or not all(is_int(state) for state in states):
            return False
        if list(states) != sorted(set(states)) or not states or states[0] != 0 or states[-1] != len(row):
            return False
    return True


def kept_cuts(rows, kept):
    """All kept cuts."""
    return [cut for cut in try_cuts(rows) if all(count in kept[house] for house, count in enumerate(cut))]


def spots_of(kept):
    return [(house, state) for house in sorted(kept) for state in kept[house]]


def judge_spot(kept, value):
    return type(value) is tuple and len(value) == 2 and is_int(value[0]) and is_int(value[1]) and value in spots_of(kept)


def heard_by(rows, letter):
    for house, place in all_events(rows):
        if rows[house][place] == ("hear", letter):
            return (house, place)
    return None


def heard_letters(rows):
    return sorted(what[1] for row in rows for what in row if what[0] == "hear")


def stretch(kept, event):
    return max(state for state in kept[event[0]] if state <= event[1])


def judge_zigzag(rows, kept, one, other, value, direct=False):
    """Whether a value is a zigzag, letter by letter."""
    if not is_listy(value) or len(value) == 0 or not all(is_int(letter) for letter in value):
        return False
    if not all(letter in heard_letters(rows) for letter in value):
        return False
    first, last = said_by(rows, value[0]), heard_by(rows, value[-1])
    if first[0] != one[0] or first[1] < one[1] or last[0] != other[0] or last[1] >= other[1]:
        return False
    for letter, later in zip(value, value[1:]):
        hearing, saying = heard_by(rows, letter), said_by(rows, later)
        if hearing[0] != saying[0]:
            return False
        if direct and saying[1] <= hearing[1]:
            return False
        if not direct and stretch(kept, saying) < stretch(kept, hearing):
            return False
    return True


def zigzags_of(rows, kept, one, other, most, direct=False):
    """All zigzags of at most so many letters."""
    letters = heard_letters(rows)
    return [list(value) for many in range(1, most + 1) for value in itertools.product(letters, repeat=many)
            if judge_zigzag(rows, kept, one, other, value, direct)]


def first_zigzag(rows, kept, one, other, direct=False):
    """Of those with the fewest letters the least one, by going on from all that are found, letter by letter."""
    letters = heard_letters(rows)
    found = [[letter] for letter in letters if judge_zigzag(rows, kept, one, (heard_by(rows, letter)[0], 10 ** 6),
                                                            [letter], direct)]
    seen = set()
    while found:
        fit = [value for value in found if judge_zigzag(rows, kept, one, other, value, direct)]
        if fit:
            return min(fit)
        seen |= {value[-1] for value in found}
        more = {}
        for value in sorted(found):
            for letter in letters:
                whole = value + [letter]
                if letter not in seen and letter not in more and judge_zigzag(
                        rows, kept, one, (heard_by(rows, letter)[0], 10 ** 6), whole, direct):
                    more[letter] = whole
        found = list(more.values())
    return None


def own_left(rows, kept, fallen, house, written):
    """The states that are left of a house, by trying from each kept state over each number of events."""
    states = list(kept[house])
    if house in fallen and len(states) > 1:
        states = states[:-1]
    found = set(states)
    for state in states:
        for end in range(state, len(rows[house]) + 1):
            if all(what[0] != "hear" or what[1] in written for what in rows[house][state:end]):
                found.add(end)
    return sorted(found)


def own_remaining(rows, kept, fallen, written):
    """The greatest cut of states that are left, among all cuts."""
    left = [own_left(rows, kept, fallen, house, written) for house in range(len(rows))]
    cuts = [cut for cut in try_cuts(rows) if all(count in states for count, states in zip(cut, left))]
    great = tuple(max(cut[house] for cut in cuts) for house in range(len(rows)))
    assert great in cuts
    return great


def own_undone(rows, kept, fallen, written):
    cut = own_remaining(rows, kept, fallen, written)
    return [(house, place) for house, place in all_events(rows) if place >= cut[house]]


def judge_undoings(rows, kept, fallen, event, value, written):
    if not is_listy(value) or len(value) == 0:
        return False
    for k, told in enumerate(value):
        if type(told) is not tuple or len(told) != 3 or not is_int(told[0]) or not is_int(told[1]):
            return False
        house, state, letter = told
        if not 0 <= house < len(rows):
            return False
        left = own_left(rows, kept, fallen, house, written)
        if letter is None:
            if house not in fallen or state != left[-1]:
                return False
            continue
        if not is_int(letter) or letter not in heard_letters(rows) or heard_by(rows, letter)[0] != house:
            return False
        saying, hearing = said_by(rows, letter), heard_by(rows, letter)
        if not any(former[0] == saying[0] and saying[1] >= former[1] for former in value[:k]):
            return False
        if state != max(one for one in left if one <= hearing[1]):
            return False
    return value[-1][0] == event[0] and value[-1][1] <= event[1]


def lists_of(values):
    return [list(some) for many in range(len(values) + 1) for some in itertools.combinations(values, many)]

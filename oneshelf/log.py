"""Logs of changes, and runs that are alike but for exchanges of steps that do not touch."""

from oneshelf.ahead import positions_between
from oneshelf.basics import is_count, is_list, is_number_below
from oneshelf.errors import InvalidChange, InvalidChanges, InvalidText, TooMany
from oneshelf.shelves import calls
from oneshelf.steps import RULED, is_step, number_below, number_of, step_of

MOST_CHANGES = 300
MOST_EXCHANGES = 4000


def change_of(text, houses):
    """The tuple of the change, of a rule of so many houses, that a text tells; None if it tells none."""
    words = text.split(" ")
    if words[0] != "note":
        return step_of(words, houses)
    if len(words) != 3 or number_below(words[1], houses) is None or number_of(words[2]) is None:
        return None
    return ("note", number_of(words[1]), number_of(words[2]))


def is_change(value):
    """Whether any value is a change."""
    return isinstance(value, str) and change_of(value, RULED) is not None


def good_changes(text):
    """The changes of the good beginning of a text."""
    found = []
    for line in text.split("\n")[:-1]:
        number, _, change = line.partition(" ")
        if len(found) == MOST_CHANGES or number != str(len(found) + 1) or not is_change(change):
            return found
        found.append(change)
    return found


class Log:
    """A list of changes."""

    def __init__(self, changes=()):
        if not is_list(changes):
            raise InvalidChanges(None)
        for position, change in enumerate(changes):
            if not is_change(change):
                raise InvalidChanges(position)
        if len(changes) > MOST_CHANGES:
            raise TooMany("changes", MOST_CHANGES)
        self._lines = tuple(changes)

    @staticmethod
    def of_text(text):
        """The Log with this text."""
        if not isinstance(text, str):
            raise InvalidText(1)
        found = Log(good_changes(text))
        if found.text() != text:
            raise InvalidText(len(found) + 1)
        return found

    @staticmethod
    def torn(text):
        """The good beginning of a text."""
        if not isinstance(text, str):
            raise InvalidText(1)
        return Log(good_changes(text))

    def lines(self):
        """The list of the changes."""
        return list(self._lines)

    def text(self):
        """The numbered lines of the changes."""
        return "".join([f"{number + 1} {line}\n" for number, line in enumerate(self._lines)])

    def __len__(self):
        return len(self._lines)

    def __contains__(self, x):
        return isinstance(x, str) and x in self._lines

    def __add__(self, other):
        if not is_change(other):
            raise InvalidChange(other)
        return Log(self._lines + (other,))

    def __eq__(self, other):
        return isinstance(other, Log) and self._lines == other._lines

    def __repr__(self):
        return f"Log({self.lines()!r})"


def marks_of(rule, run):
    """For each step the tuple (hand, house, whether it begins or ends a call); None for a hand or house it lacks."""
    found = calls(rule, run)
    edges = {call[4]: True for call in found}
    for call in found:
        if call[5] is not None:
            edges[call[5]] = True
    marks = []
    for position, step in enumerate(run):
        hand = None if step[0] == "lose" else step[1]
        house = step[2] if step[0] == "at" else step[1] if step[0] == "lose" else None
        marks.append((hand, house, position in edges))
    return marks


def do_touch(one, other):
    """Whether two steps with these marks touch."""
    if one[0] is not None and one[0] == other[0] or one[1] is not None and one[1] == other[1]:
        return True
    return one[2] and other[2]


def numbered_steps(run):
    """The dict from the numbered steps of a run to their positions, in the sequence of the run."""
    many = {}
    found = {}
    for position, step in enumerate(run):
        many[step] = many.get(step, 0) + 1
        found[(step, many[step] - 1)] = position
    return found


def difference_of(marks, one, other):
    """A difference of two runs, the first one with these marks of its steps; None if they are alike."""
    ones, others = numbered_steps(one), numbered_steps(other)
    for told in list(ones) + list(others):
        if told not in ones or told not in others:
            return (told, None)
    rows = list(ones)
    for at, later in enumerate(rows):
        for former in rows[:at]:
            if others[former] > others[later] and do_touch(marks[ones[former]], marks[at]):
                return (former, later)
    return None


def checked_difference(rule, one, other):
    """A difference of two runs; None if they are alike; what is no run is refused."""
    marks = marks_of(rule, one)
    marks_of(rule, other)
    return difference_of(marks, one, other)


def difference(rule, one, other):
    """A difference of two runs; None if they are alike."""
    return checked_difference(rule, one, other)


def are_alike(rule, one, other):
    """Whether two runs are alike."""
    return checked_difference(rule, one, other) is None


def exchanges_between(rule, one, other):
    """The list of the fewest positions of exchanges that lead from the one run to the other one; None."""
    if checked_difference(rule, one, other) is not None:
        return None
    found = positions_between(list(numbered_steps(one)), list(numbered_steps(other)))
    if len(found) > MOST_EXCHANGES:
        raise TooMany("exchanges", MOST_EXCHANGES)
    return found


def are_exchanges_between(rule, one, other, value):
    """Whether any value is a list of positions of exchanges that lead from the one run to the other one."""
    marks = marks_of(rule, one)
    marks_of(rule, other)
    if not is_list(value):
        return False
    now = list(zip(one, marks))
    for k in value:
        if not is_number_below(k, len(now) - 1) or do_touch(now[k][1], now[k + 1][1]):
            return False
        now[k], now[k + 1] = now[k + 1], now[k]
    return [step for step, _ in now] == list(other)


def is_numbered(rule, value):
    """Whether any value can be a numbered step of a run of the rule."""
    return isinstance(value, tuple) and len(value) == 2 and is_step(value[0], rule.houses) and is_count(value[1])


def is_difference(rule, one, other, value):
    """Whether any value is a difference of two runs."""
    marks = marks_of(rule, one)
    marks_of(rule, other)
    if not isinstance(value, tuple) or len(value) != 2 or not is_numbered(rule, value[0]):
        return False
    ones, others = numbered_steps(one), numbered_steps(other)
    former, later = value
    if later is None:
        return (former in ones) != (former in others)
    if not is_numbered(rule, later) or not all([told in ones and told in others for told in value]):
        return False
    if ones[former] >= ones[later] or others[former] <= others[later]:
        return False
    return do_touch(marks[ones[former]], marks[ones[later]])


def least_alike(rule, run):
    """The first run, sorted, of those alike to it."""
    marks = marks_of(rule, run)
    left = list(range(len(run)))
    found = []
    while len(left) > 0:
        ready = []
        for at, number in enumerate(left):
            if not any([do_touch(marks[former], marks[number]) for former in left[:at]]):
                ready.append((run[number], number))
        found.append(min(ready)[0])
        left.remove(min(ready)[1])
    return found

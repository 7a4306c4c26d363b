"""Plain histories: values, when they stand, which bar one another, and what refuses or explains them."""

from oneshelf.basics import is_name, is_number_below, is_text
from oneshelf.errors import InvalidThings
from oneshelf.failures import NotPlain, SameText
from oneshelf.histories import is_before, is_shelf_call


def check_firsts(history, value):
    """Refuse what is no dict from just the names of the history to texts."""
    names = history.names()
    if not isinstance(value, dict) or len(value) != len(names):
        raise InvalidThings(value)
    if not all([is_name(name) and name in names and is_text(value[name]) for name in value]):
        raise InvalidThings(value)


def is_plain_call(call):
    """Whether a call is one on a plain shelf, and is open, or answered as those are."""
    if not is_shelf_call(call[2]):
        return False
    if call[4] is None:
        return True
    if call[2][0] == "write":
        return call[5] == ""
    return is_text(call[5])


def check_plain(history, firsts):
    """Refuse a history that is not plain."""
    calls = history.calls()
    if not all([is_plain_call(call) for call in calls]):
        raise NotPlain()
    seen = {(name, firsts[name]): True for name in firsts}
    for number, call in enumerate(calls):
        if call[2][0] == "write":
            if (call[1], call[2][1]) in seen:
                raise SameText(number)
            seen[(call[1], call[2][1])] = True


def value_of(call):
    """The value (name, text) that a call writes, or has read."""
    if call[2][0] == "write":
        return (call[1], call[2][1])
    return (call[1], call[5])


def is_ended_read(call):
    """Whether a call is a read that is ended."""
    return call[2][0] == "read" and call[4] is not None


def told_values(calls):
    """The dict of the values that ended reads tell."""
    return {value_of(call): True for call in calls if is_ended_read(call)}


def those_that_count(calls):
    """The numbers of the calls that count."""
    told = told_values(calls)
    return [number for number, call in enumerate(calls)
            if call[4] is not None or call[2][0] == "write" and value_of(call) in told]


def calls_by_value(calls, firsts):
    """The dict from all values that are there at first, or that calls which count are of, to the numbers of these."""
    found = {(name, firsts[name]): [] for name in firsts}
    for number in those_that_count(calls):
        found.setdefault(value_of(calls[number]), []).append(number)
    return found


def ends_of(calls, numbers):
    """The sorted tuples (end, number) of those of these calls that are ended."""
    return sorted([(calls[number][4], number) for number in numbers if calls[number][4] is not None])


def zone(history, firsts, value, numbers):
    """The tuple (end, begin) of a value by the numbers of its calls."""
    calls = history.calls()
    begin = max([-1] + [calls[number][3] for number in numbers])
    if firsts[value[0]] == value[1]:
        return (-1, begin)
    ends = [end for end, _ in ends_of(calls, numbers)]
    return (min(ends + [len(history.entries())]), begin)


def zones_by_value(history, firsts):
    """The dict from the values, sorted, to their tuples (end, begin)."""
    found = calls_by_value(history.calls(), firsts)
    return {value: zone(history, firsts, value, found[value]) for value in sorted(list(found))}


def barring_values(history, firsts):
    """The sorted list of the tuples (name, text, text) of values that bar one another."""
    found = zones_by_value(history, firsts)
    return [(one[0], one[1], other[1]) for one in found for other in found
            if one[0] == other[0] and one[1] < other[1]
            and found[one][0] < found[other][1] and found[other][0] < found[one][1]]


def bad_reads(calls, firsts):
    """The numbers of the bad reads."""
    writes = {value_of(call): call for call in calls if call[2][0] == "write"}
    found = []
    for number, call in enumerate(calls):
        if is_ended_read(call) and firsts[call[1]] != call[5]:
            write = writes.get(value_of(call))
            if write is None or write[3] > call[4]:
                found.append(number)
    return found


def counting(history, firsts):
    """The sorted list of the numbers of the calls that count."""
    check_firsts(history, firsts)
    check_plain(history, firsts)
    return those_that_count(history.calls())


def zones(history, firsts):
    """The sorted list of the tuples (name, text, end, begin) of all values."""
    check_firsts(history, firsts)
    check_plain(history, firsts)
    found = zones_by_value(history, firsts)
    return [value + found[value] for value in found]


def barring(history, firsts):
    """The sorted list of the tuples (name, text, text) of two values that bar one another."""
    check_firsts(history, firsts)
    check_plain(history, firsts)
    return barring_values(history, firsts)


def is_plain_explained(history, firsts):
    """Whether some order explains the history."""
    return plain_refusal(history, firsts) is None


def rows_of_calls(history, firsts):
    """For each name the list of its calls that count, in a sequence that answers them all, if no two values bar."""
    calls = history.calls()
    found = zones_by_value(history, firsts)
    numbers = calls_by_value(calls, firsts)
    rows = {name: [] for name in history.names()}
    # Where one value stands ahead of another one, and not the other way round, its two ends come to less.
    for _, value in sorted([(sum(list(found[value])), value) for value in found]):
        reads = [number for number in numbers[value] if calls[number][2][0] == "read"]
        writes = [number for number in numbers[value] if calls[number][2][0] == "write"]
        rows[value[0]].extend(writes + reads)
    return [rows[name] for name in rows]


def plain_order(history, firsts):
    """An order that explains the history; None."""
    if plain_refusal(history, firsts) is not None:
        return None
    calls = history.calls()
    rows = rows_of_calls(history, firsts)
    found = []
    at = 0
    while at < len(rows):
        # The sequences of the names and of time bar one another never, so some row can always go on.
        left = [number for row in rows for number in row]
        if len(rows[at]) > 0 and not any([is_before(calls, number, rows[at][0]) for number in left]):
            found.append(rows[at][0])
            rows[at] = rows[at][1:]
            at = 0
        else:
            at = at + 1
    return found


def bars_by(calls, ones, others):
    """The tuple ("bars", ..) of the calls of two values that bar one another."""
    last = max([(calls[number][3], number) for number in others])[1]
    own_last = max([(calls[number][3], number) for number in ones])[1]
    return ("bars", ends_of(calls, ones)[0][1], last, ends_of(calls, others)[0][1], own_last)


def plain_refusal(history, firsts):
    """A plain refusal of the history; None."""
    check_firsts(history, firsts)
    check_plain(history, firsts)
    calls = history.calls()
    bad = bad_reads(calls, firsts)
    if len(bad) > 0:
        return ("bad", bad[0])
    pairs = barring_values(history, firsts)
    if len(pairs) == 0:
        return None
    name, text, other = pairs[0]
    numbers = calls_by_value(calls, firsts)
    if firsts[name] == other:
        text, other = other, text
    ones, others = numbers[(name, text)], numbers[(name, other)]
    if firsts[name] == text:
        return ("late", ends_of(calls, others)[0][1], max([(calls[number][3], number) for number in ones])[1])
    return bars_by(calls, ones, others)


def is_late(calls, firsts, numbers):
    """Whether of two calls that count the one makes the other one late."""
    one, read = numbers
    name, text = value_of(calls[read])
    if calls[read][2][0] != "read" or firsts[name] != text or not is_before(calls, one, read):
        return False
    return calls[one][1] == name and value_of(calls[one]) != (name, text)


def do_bar(calls, numbers):
    """Whether of four calls that count the outer ones are of a value that is barred so by that of the inner ones."""
    first, second, third, fourth = numbers
    value, other = value_of(calls[first]), value_of(calls[second])
    if value != value_of(calls[fourth]) or other != value_of(calls[third]):
        return False
    if value == other or value[0] != other[0]:
        return False
    return is_before(calls, first, second) and is_before(calls, third, fourth)


def is_plain_refusal(history, firsts, value):
    """Whether any value is a plain refusal of the history."""
    check_firsts(history, firsts)
    check_plain(history, firsts)
    if not isinstance(value, tuple) or len(value) < 2 or not isinstance(value[0], str):
        return False
    calls = history.calls()
    fit = those_that_count(calls)
    numbers = list(value[1:])
    if not all([is_number_below(number, len(calls)) and number in fit for number in numbers]):
        return False
    if value[0] == "bad":
        return len(numbers) == 1 and numbers[0] in bad_reads(calls, firsts)
    if value[0] == "late":
        return len(numbers) == 2 and is_late(calls, firsts, numbers)
    return value[0] == "bars" and len(numbers) == 4 and do_bar(calls, numbers)

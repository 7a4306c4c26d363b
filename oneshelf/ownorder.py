"""Own orders, that heed only the sequence of each hand; and told sequences of writes, with links and rings."""

from oneshelf.basics import is_list, is_name, is_number_below
from oneshelf.errors import InvalidWrites
from oneshelf.failures import BadRead
from oneshelf.histories import check_things
from oneshelf.refusals import Steps, are_closed, are_refused, few_spots, first_way, is_order
from oneshelf.zones import check_firsts, check_plain, is_ended_read, those_that_count, value_of


def explains_own(history, things, value):
    """Whether any value is an own order that explains the history."""
    check_things(history, things)
    return is_order(history, Steps(history, things, True), value)


def own_order(history, things):
    """The first own order that explains the history; None."""
    check_things(history, things)
    steps = Steps(history, things, True)
    return first_way(steps, few_spots(history, steps))


def own_refusal(history, things):
    """The sorted list of the first spot and all to which own steps lead, if it is an own refusal; None."""
    check_things(history, things)
    steps = Steps(history, things, True)
    return are_refused(steps, few_spots(history, steps))


def is_own_refusal(history, things, value):
    """Whether any value is an own refusal of the history."""
    check_things(history, things)
    return are_closed(Steps(history, things, True), value)


def writes_of(calls, name):
    """The numbers of the writes of a name that count."""
    return [number for number in those_that_count(calls) if calls[number][1] == name and calls[number][2][0] == "write"]


def are_writes(history, value):
    """Whether any value is a sequence of the writes that count, for each name."""
    names = history.names()
    if not isinstance(value, dict) or len(value) != len(names):
        return False
    if not all([is_name(name) and name in names for name in value]):
        return False
    for name in names:
        if not is_list(value[name]) or not all([is_number_below(number, len(history)) for number in value[name]]):
            return False
        if sorted(value[name]) != writes_of(history.calls(), name):
            return False
    return True


def check_writes(history, firsts, writes):
    """Refuse texts at first that are none, a history that is not plain, and writes that are none."""
    check_firsts(history, firsts)
    check_plain(history, firsts)
    if not are_writes(history, writes):
        raise InvalidWrites(writes)


def neighbours(numbers, why):
    """The links from each call to the next one."""
    return [(one, other, why) for one, other in zip(numbers[:-1], numbers[1:])]


def links_about(calls, name, first, writes):
    """The links of the calls on a shelf that holds this text at first."""
    reads = [number for number in those_that_count(calls) if calls[number][1] == name and is_ended_read(calls[number])]
    texts = [first] + [calls[number][2][1] for number in writes]
    found = neighbours(list(writes), "told")
    for at, write in enumerate(writes):
        found.extend([(write, read, "read") for read in reads if calls[read][5] == texts[at + 1]])
        found.extend([(read, write, "next") for read in reads if calls[read][5] == texts[at]])
    return found


def all_links(history, firsts, writes):
    """The sorted list of the links."""
    calls = history.calls()
    fit = those_that_count(calls)
    found = []
    for hand in history.hands():
        found.extend(neighbours([number for number in fit if calls[number][0] == hand], "own"))
    for name in history.names():
        found.extend(links_about(calls, name, firsts[name], writes[name]))
    return sorted(found)


def links(history, firsts, writes):
    """The sorted list of the links."""
    check_writes(history, firsts, writes)
    return all_links(history, firsts, writes)


def check_reads(history, firsts):
    """Refuse a read whose value is neither written nor there at first."""
    calls = history.calls()
    there = {(name, firsts[name]): True for name in firsts}
    for call in calls:
        if call[2][0] == "write":
            there[value_of(call)] = True
    for number, call in enumerate(calls):
        if is_ended_read(call) and value_of(call) not in there:
            raise BadRead(number)


def ahead_by_links(numbers, found):
    """The dict from these calls to those that links lead from to them."""
    ahead = {number: [] for number in numbers}
    for one, other, _ in found:
        ahead[other].append(one)
    return ahead


def sorted_out(ahead):
    """The list of calls, each behind those ahead of it, as far as this goes: the least one always first."""
    found = []
    left = sorted(list(ahead))
    at = 0
    while at < len(left):
        if all([one in found for one in ahead[left[at]]]):
            found.append(left.pop(at))
            at = 0
        else:
            at = at + 1
    return found


def told_order(history, firsts, writes):
    """An own order that keeps the told writes and explains the history; None."""
    check_writes(history, firsts, writes)
    check_reads(history, firsts)
    ahead = ahead_by_links(those_that_count(history.calls()), all_links(history, firsts, writes))
    found = sorted_out(ahead)
    if len(found) < len(ahead):
        return None
    return found


def ring(history, firsts, writes):
    """A ring of links; None."""
    check_writes(history, firsts, writes)
    check_reads(history, firsts)
    ahead = ahead_by_links(those_that_count(history.calls()), all_links(history, firsts, writes))
    out = sorted_out(ahead)
    left = [number for number in sorted(list(ahead)) if number not in out]
    if len(left) == 0:
        return None
    # Each call that is left has one that is left ahead of it; going back comes to some call again.
    back = [left[0]]
    while back[-1] not in back[:-1]:
        back.append([number for number in ahead[back[-1]] if number in left][0])
    return back[back.index(back[-1]) + 1:][::-1]


def is_ring(history, firsts, writes, value):
    """Whether any value is a ring of links."""
    check_writes(history, firsts, writes)
    if not is_list(value) or len(value) < 2 or not all([is_number_below(number, len(history)) for number in value]):
        return False
    if len({number: True for number in value}) < len(value):
        return False
    pairs = {(one, other): True for one, other, _ in all_links(history, firsts, writes)}
    return all([(value[at - 1], value[at]) in pairs for at in range(len(value))])

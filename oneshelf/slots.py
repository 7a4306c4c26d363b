"""Slots with a run of a council each: known calls, holes, and what being led by them answers."""

from oneshelf.ballots import chosen, is_council_run
from oneshelf.basics import is_count, is_list, is_name, is_text
from oneshelf.errors import InvalidKnown, InvalidNamed, InvalidRuns
from oneshelf.failures import SlotsClash
from oneshelf.kinds import check_state, is_call


def chosen_calls(council, runs):
    """The dict from the slots in whose run a ballot is chosen to the value of the least such ballot."""
    if not isinstance(runs, dict):
        raise InvalidRuns(runs)
    if not all([is_count(slot) and is_council_run(council, runs[slot]) for slot in runs]):
        raise InvalidRuns(runs)
    found = {slot: chosen(council, runs[slot]) for slot in sorted(list(runs))}
    return {slot: found[slot][0][1] for slot in found if len(found[slot]) > 0}


def check_known(value):
    """Refuse what is no dict from COUNTS to TEXTS."""
    if not isinstance(value, dict) or not all([is_count(slot) and is_text(value[slot]) for slot in value]):
        raise InvalidKnown(value)


def prefix_of(known):
    """How many slots from 0 on are known without a hole."""
    many = 0
    while many in known:
        many = many + 1
    return many


def prefix(known):
    """How many slots from 0 on are known without a hole."""
    check_known(known)
    return prefix_of(known)


def holes(known):
    """The sorted list of the unknown slots below the greatest known one."""
    check_known(known)
    return [slot for slot in range(max([0] + list(known))) if slot not in known]


def joined(one, other):
    """The dict of what both know."""
    check_known(one)
    check_known(other)
    clashes = [slot for slot in sorted(list(one)) if slot in other and one[slot] != other[slot]]
    if len(clashes) > 0:
        raise SlotsClash(clashes[0])
    slots = {slot: True for slot in list(one) + list(other)}
    return {slot: one[slot] if slot in one else other[slot] for slot in sorted(list(slots))}


def led_by(kind, state, known):
    """The tuple of the list of the answers, and the state, of being led by the known calls."""
    check_state(kind, state)
    check_known(known)
    if not all([known[slot] == "" or is_call(kind, known[slot]) for slot in known]):
        raise InvalidKnown(known)
    answers = []
    now = state
    for slot in range(prefix_of(known)):
        answer = None
        if known[slot] != "":
            answer, now = kind.after(now, known[slot])
        answers.append(answer)
    return (answers, now)


def is_named(kind, value):
    """Whether any value is a named call of the kind."""
    return isinstance(value, tuple) and len(value) == 2 and is_name(value[0]) and is_call(kind, value[1])


def led_once(kind, state, named):
    """The tuple of the list of the answers, and the state, of a list of named calls that is done once."""
    check_state(kind, state)
    if not is_list(named):
        raise InvalidNamed(None)
    for position, told in enumerate(named):
        if not is_named(kind, told):
            raise InvalidNamed(position)
    first = {}
    now = state
    for name, call in named:
        if name not in first:
            first[name], now = kind.after(now, call)
    return ([first[name] for name, _ in named], now)

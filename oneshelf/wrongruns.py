"""Runs that show that a rule is wrong, or how far its reads can stay behind."""

from oneshelf.basics import is_count
from oneshelf.errors import InvalidNumber, TooMany
from oneshelf.rules import check_losing, is_right, others_of, pairs_of
from oneshelf.shelves import is_run, losers, played
from oneshelf.tagged import check_one_writer, is_explained_run, missed

MOST_WRITES = 30


def going(hand, houses):
    """The steps by which the call of a hand goes to these houses."""
    return [("at", hand, house) for house in houses]


def write_to(rule, hand, text, houses):
    """The steps by which a hand begins a write and puts at these houses."""
    asking = rule.reading_meetings()[0] if rule.writers == "many" else ()
    return [("write", hand, text)] + going(hand, asking) + going(hand, houses)


def read_at(rule, run, hand, meeting):
    """The run with a read behind it that asks at a meeting, and ends."""
    more = run + [("read", hand)] + going(hand, meeting)
    if any([told[0] == hand for told in played(rule, more).halves_now()]):
        more = more + going(hand, rule.writing_meetings()[0])
    return more


def lost_by(houses):
    """The steps by which these houses lose."""
    return [("lose", house) for house in houses]


def blind_run(rule):
    """A wrong run of a rule whose writers are blind: the later write has the lesser tag."""
    writing = rule.writing_meetings()[0]
    run = write_to(rule, 1, "a", writing) + write_to(rule, 0, "b", writing)
    return read_at(rule, run, 2, rule.reading_meetings()[0])


def missing_run(rule, pair, many):
    """A run with so many writes at one meeting, and a read at another one of which those lose that both share."""
    reading, writing, both = pair
    run = []
    for number in range(many):
        run = run + write_to(rule, 0, f"v{number}", writing)
    return read_at(rule, run + lost_by(both), 1, reading)


def forgotten_run(rule):
    """A wrong run of a rule whose reads never write back, with a house that loses."""
    reading, _, both = pairs_of(rule)[0]
    run = read_at(rule, write_to(rule, 0, "a", both[:1]), 1, reading)
    return read_at(rule, run + lost_by(both[:1]), 2, reading)


def turned_run(rule, others):
    """A wrong run of a rule whose reads never write back, by two meetings with unlike houses that are written."""
    for one, houses in others:
        for other, more in others:
            apart = [house for house in houses if house not in more]
            if len(apart) > 0:
                run = read_at(rule, write_to(rule, 0, "a", apart[:1]), 1, one)
                return read_at(rule, run, 2, other)
    return None


def settled_run(rule, pair):
    """A wrong run by a meeting all of which holds a tag that no other house ever had, but for those that lose."""
    one, other, both = pair
    run = write_to(rule, 0, "a", one[:1])
    # Reads that find unlike tags write back, and so bring the tag to the rest of the meeting, house by house.
    for number, house in enumerate(one[1:]):
        hand = number + 1
        run = run + [("read", hand)] + going(hand, one) + going(hand, [house])
    run = read_at(rule, run, len(one), one)
    return read_at(rule, run + lost_by(both), len(one) + 1, other)


def wrong_run(rule, losing=0):
    """A wrong run of the rule; None if it is right."""
    if is_right(rule, losing):
        return None
    if rule.writers == "blind":
        return blind_run(rule)
    weak = [pair for pair in pairs_of(rule) if len(pair[2]) <= losing]
    if len(weak) > 0:
        return missing_run(rule, weak[0], 1)
    if rule.back == "if unlike":
        return settled_run(rule, [pair for pair in others_of(rule) if len(pair[2]) <= losing][0])
    if losing > 0:
        return forgotten_run(rule)
    return turned_run(rule, others_of(rule))


def is_wrong_run(rule, value, losing=0):
    """Whether any value is a run in which at most so many houses lose, and whose history is not explained."""
    check_losing(rule, losing)
    if not is_run(rule, value) or len(losers(rule, value)) > losing:
        return False
    return not is_explained_run(rule, value)


def check_late(rule, number):
    """Refuse a rule with other writers, and what is no number of writes that a read misses."""
    check_one_writer(rule)
    if not is_count(number):
        raise InvalidNumber(number)


def late_run(rule, number):
    """A run without losses in which a read that ended misses at least so many writes; None if there is none."""
    check_late(rule, number)
    if number > MOST_WRITES:
        raise TooMany("writes", MOST_WRITES)
    if number == 0:
        return read_at(rule, [], 1, rule.reading_meetings()[0])
    apart = [pair for pair in pairs_of(rule) if len(pair[2]) == 0]
    if len(apart) == 0:
        return None
    return missing_run(rule, apart[0], number)


def is_late_run(rule, number, value):
    """Whether any value is a run without losses in which a read that ended misses at least so many writes."""
    check_late(rule, number)
    if not is_run(rule, value) or len(losers(rule, value)) > 0:
        return False
    return any([count is not None and count >= number for count in missed(rule, value)])

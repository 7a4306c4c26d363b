"""What the tags of a run tell: the order by them, what reads miss, and which runs are explained or regular."""

from oneshelf.failures import OtherWriters
from oneshelf.shelves import calls, history
from oneshelf.zones import is_plain_explained


def check_one_writer(rule):
    """Refuse a rule with another word for its writers."""
    if rule.writers != "one":
        raise OtherWriters(rule.writers)


def is_ended(call, word):
    """Whether a call is one of this word, and has ended."""
    return call[1] == word and call[5] is not None


def tag_order(rule, run):
    """The list of the positions, in calls, of the calls of the tag order."""
    found = calls(rule, run)
    told = {call[3]: True for call in found if is_ended(call, "read")}
    # A tag is that of one write alone, so no more is needed to set writes ahead of reads than their words.
    writes = [(call[3], 0, number) for number, call in enumerate(found)
              if is_ended(call, "write") or call[1] == "write" and call[3] in told]
    reads = [(call[3], 1, number) for number, call in enumerate(found) if is_ended(call, "read")]
    return [number for _, _, number in sorted(writes + reads)]


def is_explained_run(rule, run):
    """Whether the history of the run is explained."""
    some = history(rule, run)
    return is_plain_explained(some, {name: "" for name in some.names()})


def writes_ahead(found, read):
    """The writes among these calls that ended ahead of the begin of a read, in the sequence in which they began."""
    return [call for call in found if is_ended(call, "write") and call[5] < read[4]]


def missed(rule, run):
    """The list with, for each call, how many writes it misses; None but for reads that ended."""
    check_one_writer(rule)
    found = calls(rule, run)
    counts = []
    for read in found:
        if is_ended(read, "read"):
            counts.append(len([call for call in writes_ahead(found, read) if call[3] > read[3]]))
        else:
            counts.append(None)
    return counts


def regular_values(found, read):
    """The values that a read that ended can tell if the rule is regular."""
    ended = writes_ahead(found, read)
    last = ended[-1][5] if len(ended) > 0 else -1
    later = [call[2] for call in found if call[1] == "write" and last < call[4] < read[5]]
    return [ended[-1][2] if len(ended) > 0 else ""] + later


def is_regular_run(rule, run):
    """Whether each read that ended tells the last write that ended ahead of it, or a later one."""
    check_one_writer(rule)
    found = calls(rule, run)
    return all([call[2] in regular_values(found, call) for call in found if is_ended(call, "read")])

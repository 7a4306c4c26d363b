"""Which claims are so, and their papers: by the first word of their line, and their parts."""

from oneshelf.ahead import chain, is_ahead, is_chain, line_against
from oneshelf.back import is_undoings, left_states, remaining, undoings
from oneshelf.ballots import is_safe, is_two, two_values
from oneshelf.basics import is_fraction
from oneshelf.common import are_closed_seats, closed_seats, is_common, is_way_out, way_out
from oneshelf.flags import (are_crossings, are_stretches, crossings, is_line_past, line_past, perhaps, stand_at,
                            stretches, surely)
from oneshelf.kept import least_kept_cut
from oneshelf.knowing import are_layers, is_path_against, knows_along, layers, path_against
from oneshelf.loads import chances, is_at_most, is_chances, is_weights, load, weights
from oneshelf.log import are_alike, are_exchanges_between, difference, exchanges_between, is_difference
from oneshelf.meetings import apart, are_cuts_within, common_houses, cuts_within, is_meeting
from oneshelf.pictures import events_along, is_line
from oneshelf.records import among, bar, can_choose, is_bar
from oneshelf.refusals import explains, is_explained, is_refusal, order, refusal
from oneshelf.rules import is_right, is_right_paper, right_paper
from oneshelf.votes import is_trade, is_votes, trade, votes
from oneshelf.wrongruns import is_wrong_run, wrong_run
from oneshelf.zigzags import barrier, is_barrier
from oneshelf.zones import is_plain_explained, is_plain_refusal, plain_order, plain_refusal


def is_so(word, parts):
    """Whether a claim by the first word of its line is true; parts that are not valid are refused."""
    if word == "ahead":
        return is_ahead(*parts)
    if word == "perhaps":
        return perhaps(*parts) is not None
    if word == "surely":
        return surely(*parts)
    if word == "known along":
        return knows_along(*parts)
    if word == "common":
        return is_common(*parts)
    if word == "meeting":
        return apart(*parts) is None
    if word == "votes":
        return votes(*parts) is not None
    if word == "load within":
        return is_at_most(load(parts[0]), parts[1])
    if word == "explained":
        return is_explained(*parts)
    if word == "plain explained":
        return is_plain_explained(*parts)
    if word == "right":
        return is_right(*parts)
    if word == "safe":
        return is_safe(*parts)
    if word == "can choose":
        return can_choose(*parts)
    if word == "together":
        return least_kept_cut(*parts) is not None
    if word == "undone":
        return undoings(*parts) is not None
    return are_alike(*parts)


def first_paper(word, parts):
    """A paper of a true claim by the first word of its line."""
    if word == "ahead":
        return chain(*parts)
    if word == "perhaps":
        return perhaps(*parts)
    if word == "surely":
        return stretches(*parts)
    if word == "known along":
        return layers(*parts)
    if word == "common":
        return closed_seats(*parts)
    if word == "meeting":
        return cuts_within(*parts)
    if word == "votes":
        return votes(*parts)
    if word == "load within":
        return chances(parts[0])
    if word == "explained":
        return order(*parts)
    if word == "plain explained":
        return plain_order(*parts)
    if word == "right":
        return right_paper(*parts)
    if word == "safe":
        return cuts_within(parts[0].promise, parts[0].accept)
    if word == "can choose":
        return (among(parts[0].promise, parts[1]), among(parts[0].accept, parts[1]))
    if word == "together":
        return least_kept_cut(*parts)
    if word == "undone":
        return undoings(*parts)
    return exchanges_between(*parts)


def second_paper(word, parts):
    """A paper of a true claim by the second word of its line."""
    if word == "ahead":
        return line_against(*parts)
    if word == "perhaps":
        return crossings(*parts)
    if word == "surely":
        return line_past(*parts)
    if word == "known along":
        return path_against(*parts)
    if word == "common":
        return way_out(*parts)
    if word == "meeting":
        return apart(*parts)
    if word == "votes":
        return trade(*parts)
    if word == "load within":
        return (load(parts[0]), weights(parts[0]))
    if word == "explained":
        return refusal(*parts)
    if word == "plain explained":
        return plain_refusal(*parts)
    if word == "right":
        return wrong_run(*parts)
    if word == "safe":
        return two_values(*parts)
    if word == "can choose":
        return bar(*parts)
    if word == "together":
        return barrier(*parts)
    if word == "undone":
        picture, kept, fallen, _, written = parts
        return remaining(picture, kept, fallen, written)
    return difference(*parts)


def is_first_paper(word, parts, value):
    """Whether any value is a paper of a claim by the first word of its line."""
    if word == "ahead":
        return is_chain(*parts, value)
    if word == "perhaps":
        return parts[0].has_cut(value) and stand_at(parts[1], value)
    if word == "surely":
        return are_stretches(*parts, value)
    if word == "known along":
        return are_layers(*parts, value)
    if word == "common":
        return are_closed_seats(*parts, value)
    if word == "meeting":
        return are_cuts_within(*parts, value)
    if word == "votes":
        return is_votes(*parts, value)
    if word == "load within":
        return is_chances(*parts, value)
    if word in ("explained", "plain explained"):
        return explains(*parts, value)
    if word == "right":
        return is_right_paper(parts[0], value, parts[1])
    if word == "safe":
        return are_cuts_within(parts[0].promise, parts[0].accept, value)
    if word == "can choose":
        return are_meetings_up(parts[0], parts[1], value)
    if word == "together":
        return is_kept_cut(parts, value)
    if word == "undone":
        picture, kept, fallen, event, written = parts
        return is_undoings(picture, kept, fallen, event, value, written)
    return are_exchanges_between(*parts, value)


def is_second_paper(word, parts, value):
    """Whether any value is a paper of a claim by the second word of its line."""
    if word == "ahead":
        return is_line_against(parts, value)
    if word == "perhaps":
        return are_crossings(*parts, value)
    if word == "surely":
        return is_line_past(*parts, value)
    if word == "known along":
        return is_path_against(*parts, value)
    if word == "common":
        return is_way_out(*parts, value)
    if word == "meeting":
        return are_apart(parts[0], parts[1], value)
    if word == "votes":
        return is_trade(*parts, value)
    if word == "load within":
        return are_heavy(parts[0], parts[1], value)
    if word == "explained":
        return is_refusal(*parts, value)
    if word == "plain explained":
        return is_plain_refusal(*parts, value)
    if word == "right":
        return is_wrong_run(parts[0], value, parts[1])
    if word == "safe":
        return is_two(*parts, value)
    if word == "can choose":
        return is_bar(*parts, value)
    if word == "together":
        return is_barrier(*parts, value)
    if word == "undone":
        return is_cut_left(parts, value)
    return is_difference(*parts, value)


def is_line_against(parts, value):
    """Whether any value is a line with the second event ahead of the first one."""
    picture, first, second = parts
    if not is_line(picture, value):
        return False
    events = events_along(picture.houses, value)
    return events.index(second) < events.index(first)


def are_two(value):
    """Whether any value is a tuple of two."""
    return isinstance(value, tuple) and len(value) == 2


def are_apart(one, other, value):
    """Whether any value is a tuple of a meeting of the one tree and one of the other that are apart."""
    if not are_two(value) or not is_meeting(one, value[0]) or not is_meeting(other, value[1]):
        return False
    return common_houses(value[0], value[1]) == 0


def are_heavy(tree, limit, value):
    """Whether any value is a tuple of a FRACTION above the limit, and weights by which each meeting weighs as much."""
    if not are_two(value) or not is_fraction(value[0]) or is_at_most(value[0], limit):
        return False
    return is_weights(tree, value[0], value[1])


def are_meetings_up(council, up, value):
    """Whether any value is a tuple of a meeting of each tree of a council, all of whose houses are up."""
    if not are_two(value) or not is_meeting(council.promise, value[0]) or not is_meeting(council.accept, value[1]):
        return False
    return all([house in up for houses in value for house in houses])


def is_kept_cut(parts, value):
    """Whether any value is a kept cut with the spots."""
    picture, kept, spots = parts
    if not picture.has_cut(value) or not all([count in kept[house] for house, count in enumerate(value)]):
        return False
    return all([value[house] == state for house, state in spots])


def is_cut_left(parts, value):
    """Whether any value is a cut with the event, of states that are left."""
    picture, kept, fallen, event, written = parts
    if not picture.has_cut(value) or event[1] >= value[event[0]]:
        return False
    return all([count in left_states(picture, kept, fallen, house, written) for house, count in enumerate(value)])

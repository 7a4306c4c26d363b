"""Why later ballots told what was chosen, and whether the houses that are up can still choose."""

from oneshelf.ballots import ballots, best_reply, chosen, goes_on, voted, whole_ballot
from oneshelf.basics import is_count, is_list, is_text
from oneshelf.errors import InvalidBallot, InvalidOwn, InvalidUp
from oneshelf.failures import NotChosen
from oneshelf.meetings import are_counts, cut_among, is_cut, meeting_among


def check_chosen(council, run, ballot):
    """Refuse what is no ballot that is chosen in the run."""
    numbers = [number for number, _ in chosen(council, run)]
    if not is_count(ballot):
        raise InvalidBallot(ballot)
    if ballot not in numbers:
        raise NotChosen(ballot)


def later_ones(council, run, ballot):
    """The tuples (later, houses, taken) of the greater ballots that have told, with all houses that will do."""
    found = ballots(council, run)
    told = found[ballot][3]
    later = []
    for number in found:
        if number > ballot and found[number][3] is not None:
            best = best_reply(found[number][2])
            taken = None if best is None else best[0]
            later.append((number, [house for house in found[number][1] if house in told], taken))
    return later


def record(council, run, ballot):
    """The record of a chosen ballot, of the least houses that will do; None if there is none."""
    check_chosen(council, run, ballot)
    later = later_ones(council, run, ballot)
    if not all([len(houses) > 0 for _, houses, _ in later]):
        return None
    return [(number, houses[0], taken) for number, houses, taken in later]


def is_record(council, run, ballot, value):
    """Whether any value is a record of a chosen ballot."""
    check_chosen(council, run, ballot)
    later = later_ones(council, run, ballot)
    if not is_list(value) or len(value) != len(later):
        return False
    for told, (number, houses, taken) in zip(value, later):
        if not are_counts(told) or len(told) != 3:
            return False
        if told[0] != number or told[1] not in houses or told[2] != taken:
            return False
    return True


def check_up(value):
    """Refuse what is no list of unlike COUNTS."""
    if not is_list(value) or not all([is_count(house) for house in value]):
        raise InvalidUp(value)
    unlike = {house: True for house in value}
    if len(unlike) < len(value):
        raise InvalidUp(value)


def among(tree, houses):
    """A meeting of a tree that has none but these houses, others than the tree's doing no harm; None."""
    return meeting_among(tree, [house for house in houses if house in tree])


def can_choose(council, up):
    """Whether each run has a finish if these houses are up."""
    check_up(up)
    return among(council.promise, up) is not None and among(council.accept, up) is not None


def finish(council, run, up, own):
    """A finish of the run that starts one ballot alone, with this own value; None if there is none."""
    started = ballots(council, run)
    check_up(up)
    if not is_text(own):
        raise InvalidOwn(own)
    asked, told = among(council.promise, up), among(council.accept, up)
    if asked is None or told is None:
        return None
    return whole_ballot(max([0] + [number + 1 for number in started]), own, tuple(asked), tuple(told))


def is_finish(council, run, up, value):
    """Whether any value is a finish of the run."""
    voting = voted(council, run)
    check_up(up)
    if not goes_on(voting, value):
        return False
    if not all([step[2] in up for step in value if step[0] in ("promise", "accept")]):
        return False
    started = [step[1] for step in value if step[0] == "start"]
    return any([number in started for number, _ in voting.chosen_ones()])


def bar(council, up):
    """A bar of the council; None if each run has a finish."""
    check_up(up)
    for word, tree in (("promise", council.promise), ("accept", council.accept)):
        cut = cut_among(tree, [house for house in tree.members() if house not in up])
        if cut is not None:
            return (word, tuple(cut))
    return None


def is_bar(council, up, value):
    """Whether any value is a bar of the council."""
    check_up(up)
    if not isinstance(value, tuple) or len(value) != 2 or not isinstance(value[0], str):
        return False
    if value[0] not in ("promise", "accept") or not are_counts(value[1]) or list(value[1]) != sorted(value[1]):
        return False
    tree = council.promise if value[0] == "promise" else council.accept
    return is_cut(tree, value[1]) and not any([house in up for house in value[1]])

"""Pieces of tables that melt: what makes values, what sends them, and what showers read."""

from oneshelf.basics import is_list, is_number_below
from oneshelf.errors import InvalidPiece, InvalidValues
from oneshelf.failures import NotMelting
from oneshelf.joins import check_value, check_values, melts
from oneshelf.meetings import lists_of


def check_melting(table):
    """Refuse a table that does not melt."""
    if not melts(table):
        raise NotMelting()


def joined(table, values):
    """The join of one or more values."""
    found = values[0]
    for value in values:
        found = table.at(found, value)
    return found


def is_within(table, one, other):
    """Whether the one value is within the other one."""
    return table.at(one, other) == other


def is_piece(table, value):
    """Whether a value is no join of two others."""
    rows = table.rows()
    others = [other for other in range(len(rows)) if other != value]
    return not any([rows[one][other] == value for one in others for other in others])


def all_pieces(table):
    """All pieces, sorted."""
    return [value for value in range(len(table)) if is_piece(table, value)]


def pieces_within(table, value):
    """The pieces that are within the value, sorted."""
    return [piece for piece in all_pieces(table) if is_within(table, piece, value)]


def does_make(table, listed, value):
    """Whether a list of pieces makes the value."""
    return len(listed) > 0 and joined(table, listed) == value


def join(table, values):
    """The join of the values."""
    check_melting(table)
    check_values(table, values, 1)
    return joined(table, values)


def pieces(table):
    """The pieces of the table, sorted."""
    check_melting(table)
    return all_pieces(table)


def needed_for(table, value):
    """The pieces that are needed for the value, sorted."""
    inner = pieces_within(table, value)
    return [piece for piece in inner if not does_make(table, [other for other in inner if other != piece], value)]


def needed(table, value):
    """The pieces that are needed for the value, sorted."""
    check_melting(table)
    check_value(table, value)
    return needed_for(table, value)


def makes_freely(table, listed, value):
    """Whether a list of pieces makes the value, and no shorter part of it does."""
    if not does_make(table, listed, value):
        return False
    # What a part of a list makes is within what a greater part makes, so the parts that lack one piece tell enough.
    return not any([does_make(table, [other for other in listed if other != piece], value) for piece in listed])


def are_unlike_pieces(table, listed):
    """Whether any value is a list of unlike pieces."""
    if not is_list(listed) or not all([is_number_below(piece, len(table)) for piece in listed]):
        return False
    return len(set(listed)) == len(listed) and all([is_piece(table, piece) for piece in listed])


def is_free(table, value, listed):
    """Whether listed, any value, is a free list that makes the value, sorted."""
    check_melting(table)
    check_value(table, value)
    if not are_unlike_pieces(table, listed) or sorted(listed) != list(listed):
        return False
    return makes_freely(table, listed, value)


def free_lists(table, value):
    """The sorted list of all free lists, sorted, that make the value."""
    check_melting(table)
    check_value(table, value)
    return sorted([listed for listed in lists_of(pieces_within(table, value)) if makes_freely(table, listed, value)])


def is_clear(table):
    """Whether each value is made by one free list alone."""
    check_melting(table)
    return all([does_make(table, needed_for(table, value), value) for value in range(len(table))])


def is_prime_piece(table, piece):
    """Whether a piece is within x or within y whenever it is within x.y."""
    without = [value for value in range(len(table)) if not is_within(table, piece, value)]
    return not any([is_within(table, piece, table.at(one, other)) for one in without for other in without])


def is_prime(table, piece):
    """Whether a piece of the table is prime."""
    check_melting(table)
    if not is_number_below(piece, len(table)) or not is_piece(table, piece):
        raise InvalidPiece(piece)
    return is_prime_piece(table, piece)


def missing_of(table, v, u):
    """The missing pieces of u at v, sorted."""
    new = [piece for piece in pieces_within(table, u) if not is_within(table, piece, v)]
    return [piece for piece in new
            if not any([is_within(table, piece, other) for other in new if other != piece])]


def missing(table, v, u):
    """The missing pieces of u at v, sorted."""
    check_melting(table)
    check_value(table, v)
    check_value(table, u)
    return missing_of(table, v, u)


def sends(table, v, u, listed):
    """Whether a list of pieces sends u to v."""
    return joined(table, [v] + list(listed)) == table.at(v, u)


def does_send(table, v, u, listed):
    """Whether any value is a list of unlike pieces that sends u to v."""
    check_melting(table)
    check_value(table, v)
    check_value(table, u)
    return are_unlike_pieces(table, listed) and sends(table, v, u, listed)


def fewest(table, v, u):
    """The first one of the sorted lists of the fewest pieces that send u to v."""
    check_melting(table)
    check_value(table, v)
    check_value(table, u)
    fit = [listed for listed in lists_of(all_pieces(table)) if sends(table, v, u, listed)]
    least = min([len(listed) for listed in fit])
    return min([listed for listed in fit if len(listed) == least])


def lapse(table):
    """A lapse; None if all pieces are prime."""
    check_melting(table)
    values = list(range(len(table)))
    for v, u in [(one, other) for one in values for other in values]:
        for piece in missing_of(table, v, u):
            # If some list without the piece sends u, so do all other pieces within the join together.
            others = [other for other in pieces_within(table, table.at(v, u)) if other != piece]
            if sends(table, v, u, others):
                return (v, u, others)
    return None


def is_lapse(table, value):
    """Whether any value is a lapse."""
    check_melting(table)
    if not isinstance(value, tuple) or len(value) != 3:
        return False
    v, u, listed = value
    if not is_number_below(v, len(table)) or not is_number_below(u, len(table)):
        return False
    if not are_unlike_pieces(table, listed) or not sends(table, v, u, listed):
        return False
    return any([piece not in listed for piece in missing_of(table, v, u)])


def clash(table):
    """The value within which all are."""
    return joined(table, list(range(len(table))))


def check_thresholds(table, thresholds):
    """Refuse what is no list of unlike values of the table."""
    if not is_list(thresholds):
        raise InvalidValues(None)
    for position, value in enumerate(thresholds):
        if not is_number_below(value, len(table)) or value in thresholds[:position]:
            raise InvalidValues(position)


def first_read(table, thresholds, shower):
    """What a shower reads: the thresholds within the first state that has any; None without one."""
    state = shower[0]
    for part in shower:
        state = table.at(state, part)
        inner = sorted([value for value in thresholds if is_within(table, value, state)])
        if len(inner) > 0:
            return inner
    return None


def read_of(table, thresholds, shower):
    """What the shower reads."""
    check_melting(table)
    check_thresholds(table, thresholds)
    check_values(table, shower, 1)
    return first_read(table, thresholds, shower)


def two_below(table, thresholds):
    """Two thresholds whose join is not the clash; None if there are none."""
    for one in thresholds:
        for other in thresholds:
            if one != other and table.at(one, other) != clash(table):
                return (one, other)
    return None


def are_firm(table, thresholds):
    """Whether the thresholds are firm."""
    check_melting(table)
    check_thresholds(table, thresholds)
    return two_below(table, thresholds) is None


def unlike_showers(table, thresholds):
    """A tuple of two showers that show that the thresholds are not firm; None if they are."""
    check_melting(table)
    check_thresholds(table, thresholds)
    found = two_below(table, thresholds)
    if found is None:
        return None
    return ([found[0], found[1]], [found[1], found[0]])


def is_shower(table, value):
    """Whether any value is a shower."""
    return is_list(value) and len(value) > 0 and all([is_number_below(part, len(table)) for part in value])


def are_unlike_showers(table, thresholds, value):
    """Whether any value is a tuple of two showers that show that the thresholds are not firm."""
    check_melting(table)
    check_thresholds(table, thresholds)
    if not isinstance(value, tuple) or len(value) != 2:
        return False
    if not is_shower(table, value[0]) or not is_shower(table, value[1]):
        return False
    if sorted(set(value[0])) != sorted(set(value[1])) or joined(table, value[0]) == clash(table):
        return False
    return first_read(table, thresholds, value[0]) != first_read(table, thresholds, value[1])

"""Positions, a settler's moves, courses for known streams ([7.1], [7.4])."""

from offerstands.choosers import all_sets, is_set, is_within
from offerstands.errors import BadDeed, BadPosition, TooMany
from offerstands.sides import settled_sets
from offerstands.streams import behind, moments
from offerstands.trades import all_dated, is_dated, is_deed, offers_of, require_stream
from offerstands.values import require_equal_offers

BEGINNING = ((), ())


def is_position(near, far, trade, thing):
    """Whether any value is a position."""
    require_house(near, far, trade)
    if not is_kept_of(trade, thing):
        return False
    return thing[1] in settled_sets(near, far, offers_of(thing[0]))


def positions_of(near, far, trade, *, most=400):
    """All positions, ascending."""
    require_house(near, far, trade)
    found = every_position(trade, settled_table(near, far))
    if len(found) > most:
        raise TooMany(most)
    return tuple(found)


def settler_moves(near, far, trade, position, deed):
    """All positions to which moves lead by a deed, ascending."""
    if not is_position(near, far, trade, position):
        raise BadPosition(position)
    require_deed(trade, deed)
    dated = behind(trade, position[0], deed)
    return tuple(sorted([(dated, kept) for kept in settled_sets(near, far, offers_of(dated))]))


def broken_by(position, following):
    """The set of the loans that a move between two positions breaks."""
    standing = offers_of(following[0])
    return tuple([offer for offer in position[1] if offer in standing and offer not in following[1]])


def is_course(near, far, trade, stream, thing):
    """Whether any value is a course for a stream."""
    require_house(near, far, trade)
    require_stream(trade, stream)
    if not isinstance(thing, tuple) or len(thing) != len(stream):
        return False
    stood = moments(trade, stream)[1:]
    return all([is_position(near, far, trade, position) for position in zip(stood, thing)])


def broken_along(trade, stream, course):
    """How many loans a course breaks."""
    positions = list(zip(moments(trade, stream), [(), *course]))
    return sum([len(broken_by(one, other)) for one, other in zip(positions, positions[1:])])


def fewest_broken(near, far, trade, stream):
    """The least number of loans that courses for a stream break."""
    return fewest_ahead(near, far, trade, stream)[0][BEGINNING]


def first_course(near, far, trade, stream):
    """The first course for a stream that breaks fewest loans."""
    ahead = fewest_ahead(near, far, trade, stream)
    position = BEGINNING
    course = []
    for rows in ahead[1:]:
        # The least sets that still go on with as few are the first course.
        least = min([len(broken_by(position, other)) + rows[other] for other in rows])
        position = min([other for other in rows if len(broken_by(position, other)) + rows[other] == least])
        course.append(position[1])
    return tuple(course)


def require_house(near, far, trade):
    """Raise OtherOffers unless two sides and a trade have equally many offers."""
    require_equal_offers(near, far)
    require_equal_offers(near, trade)


def require_deed(trade, thing):
    """Raise BadDeed for a value that is no deed of the trade."""
    if not is_deed(trade, thing):
        raise BadDeed(thing)


def is_kept_of(trade, thing):
    """Whether any value is a pair of a dated set within the trade and a set of its offers."""
    if not isinstance(thing, tuple) or len(thing) != 2:
        return False
    if not is_dated(trade, thing[0]) or not is_set(len(trade), thing[1]):
        return False
    return is_within(thing[1], offers_of(thing[0]))


def settled_table(near, far):
    """For each set of offers all settled sets of it."""
    return {some: settled_sets(near, far, some) for some in all_sets(near.offers)}


def every_position(trade, settled):
    """A list of all positions, ascending, by a table of settled sets."""
    return sorted([(dated, kept) for dated in all_dated(trade) for kept in settled[offers_of(dated)]])


def fewest_ahead(near, far, trade, stream):
    """For each moment of a stream the positions there, with how few loans can be broken from then on."""
    require_house(near, far, trade)
    settled = settled_table(near, far)
    ahead = []
    for dated in reversed(moments(trade, stream)):
        rows = {(dated, kept): 0 for kept in settled[offers_of(dated)]}
        if ahead:
            for position in list(rows):
                rows[position] = min([len(broken_by(position, other)) + ahead[-1][other] for other in ahead[-1]])
        ahead.append(rows)
    return ahead[::-1]

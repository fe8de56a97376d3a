"""Gates: streams that show that an edition is another one ([11.2])."""

from offerstands.choosers import all_sets
from offerstands.values import is_integer_within, require_equal_offers


def is_shown(room, before, after):
    """Whether a stream shows that the choosers of two editions are unlike."""
    return first_shown(room, before, after) is not None


def first_shown(room, before, after):
    """The first stream that shows that the choosers of two editions are unlike, None if there is none."""
    require_one_number(before, after)
    for some in all_sets(before[0].offers):
        if len(some) <= room and are_unlike(before, after, some):
            return tuple([("come", offer) for offer in some])
    return None


def shown_holds(room, before, after, thing):
    """Whether any value is a stream of comings alone that shows that two editions are unlike."""
    require_one_number(before, after)
    if not isinstance(thing, tuple) or not all([is_coming(before[0].offers, item) for item in thing]):
        return False
    standing = tuple(sorted(set([offer for _, offer in thing])))
    return len(standing) <= room and are_unlike(before, after, standing)


def require_one_number(before, after):
    """Raise OtherOffers unless all choosers of two editions have equally many offers."""
    for chooser in (*before, *after):
        require_equal_offers(before[0], chooser)


def are_unlike(before, after, some):
    """Whether some chooser takes of a set otherwise than the one at its place."""
    return any([one.taken(some) != other.taken(some) for one, other in zip(before, after)])


def is_coming(offers, thing):
    """Whether any value is the coming of one of so many offers."""
    if not isinstance(thing, tuple) or len(thing) != 2:
        return False
    return thing[0] == "come" and is_integer_within(thing[1], 0, offers - 1)

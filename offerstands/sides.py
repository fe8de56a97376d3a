"""Two sides: what both can live with ([5.1], [5.2])."""

from offerstands.choosers import is_set, is_within, parts_of, require_set, together, without
from offerstands.errors import BadSet
from offerstands.values import is_integer, is_paper, require_equal_offers


def is_agreed(near, far, some):
    """Whether both sides take all of a set."""
    require_equal_offers(near, far)
    require_set(near, some)
    return do_agree(near, far, some)


def wished_by_both(near, far, some):
    """The set of all offers outside of a set that are wished by both beside it."""
    require_equal_offers(near, far)
    require_set(near, some)
    return wished_of(near, far, tuple(range(near.offers)), some)


def is_settled(near, far, standing, part):
    """Whether a part of what stands is settled."""
    return judge_settled(near, far, standing, part) == ("settled",)


def judge_settled(near, far, standing, part):
    """A paper: that a part is settled, or an offer that shows that it is not."""
    require_part(near, far, standing, part)
    for side, chooser in (("near", near), ("far", far)):
        left = without(part, chooser.taken(part))
        if left:
            return ("left", side, left[0])
    wished = wished_of(near, far, standing, part)
    return ("wished", wished[0]) if wished else ("settled",)


def settled_holds(near, far, standing, part, thing):
    """Whether any value is a paper about a part of what stands."""
    require_part(near, far, standing, part)
    if is_paper(thing, "settled", 1):
        return is_settled(near, far, standing, part)
    if is_paper(thing, "left", 3) and is_integer(thing[2]):
        sides = [chooser for side, chooser in (("near", near), ("far", far)) if side == thing[1]]
        return any([thing[2] in without(part, chooser.taken(part)) for chooser in sides])
    if is_paper(thing, "wished", 2) and is_integer(thing[1]):
        return do_agree(near, far, part) and thing[1] in wished_of(near, far, standing, part)
    return False


def settled_sets(near, far, standing):
    """All settled sets of what stands, in order."""
    require_equal_offers(near, far)
    require_set(near, standing)
    return tuple([part for part in parts_of(standing) if is_settled(near, far, standing, part)])


def is_as_good(chooser, one, other):
    """Whether of two sets put together a chooser takes just the first one."""
    require_set(chooser, one)
    require_set(chooser, other)
    return chooser.taken(together(one, other)) == one


def do_agree(near, far, some):
    """Whether both sides take all of a set of their offers."""
    return near.taken(some) == some and far.taken(some) == some


def wished_of(near, far, standing, part):
    """The set of all offers that stand outside of a part and are wished by both beside it."""
    return tuple([offer for offer in without(standing, part) if are_wishing(near, far, part, offer)])


def are_wishing(near, far, part, offer):
    """Whether both sides take an offer of a part with it."""
    whole = together(part, (offer,))
    return offer in near.taken(whole) and offer in far.taken(whole)


def require_part(near, far, standing, part):
    """Raise OtherOffers, or BadSet for the first value that is no set, or no part of what stands."""
    require_equal_offers(near, far)
    require_set(near, standing)
    if not is_set(near.offers, part) or not is_within(part, standing):
        raise BadSet(part)

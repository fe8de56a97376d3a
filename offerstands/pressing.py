"""Offers that are pressed into what both sides agree to ([6.1])."""

from offerstands.choosers import is_set, is_within, together
from offerstands.errors import BadSet, NotWished
from offerstands.sides import do_agree, require_part, wished_of
from offerstands.values import all_walks, in_order, is_integer


def pressable(near, far, standing, part):
    """The set of the offers that can be pressed into an agreed part of what stands."""
    require_agreed(near, far, standing, part)
    return wished_of(near, far, standing, part)


def pressed(near, far, standing, part, offer):
    """What comes of pressing in an offer."""
    return pressed_all(near, far, standing, part, (offer,))


def pressed_all(near, far, standing, part, offers):
    """What comes of pressing in offers, one behind the other."""
    require_agreed(near, far, standing, part)
    for offer in offers:
        if not is_pressable(near, far, standing, part, offer):
            raise NotWished(offer)
        part = press(near, far, part, offer)
    return part


def parts_behind(near, far, standing, part):
    """All parts that come of pressing in offers, one behind the other, in order, the part itself, too."""
    require_agreed(near, far, standing, part)
    return in_order(list(presses_to_parts(near, far, standing, part)))


def require_agreed(near, far, standing, part):
    """Raise OtherOffers, or BadSet also for a part that is not agreed."""
    require_part(near, far, standing, part)
    if not do_agree(near, far, part):
        raise BadSet(part)


def is_pressable(near, far, standing, part, thing):
    """Whether any value is an offer that can be pressed into an agreed part."""
    return is_integer(thing) and thing in wished_of(near, far, standing, part)


def pressed_by(near, far, standing, part, items):
    """What comes of any values that are pressed in one behind the other, None where one cannot be."""
    for item in items:
        if not is_pressable(near, far, standing, part, item):
            return None
        part = press(near, far, part, item)
    return part


def is_agreed_part(near, far, standing, thing):
    """Whether any value is an agreed part of what stands."""
    return is_set(near.offers, thing) and is_within(thing, standing) and do_agree(near, far, thing)


def press(near, far, part, offer):
    """What both sides take of an agreed part with an offer that they wish."""
    whole = together(part, (offer,))
    kept = far.taken(whole)
    return tuple([other for other in near.taken(whole) if other in kept])


def presses_from(near, far, standing, part):
    """The pairs of an offer that can be pressed in and what comes of it, offers ascending."""
    wished = wished_of(near, far, standing, part)
    return [(offer, press(near, far, part, offer)) for offer in wished]


def presses_to_parts(near, far, standing, part):
    """For each part that comes the first offers that lead to it, in the order of these offers."""
    return all_walks(part, lambda some: presses_from(near, far, standing, some))

"""Offers that all settled sets have, or none of them ([5.4])."""

from offerstands.choosers import is_set, require_set
from offerstands.errors import BadOffer
from offerstands.sides import settled_sets
from offerstands.values import is_integer, is_paper, require_equal_offers


def judge_sure(near, far, standing, offer):
    """A paper: that an offer is sure, or vain, or two settled sets, one with it and one without it."""
    require_standing_offer(near, far, standing, offer)
    sets = settled_sets(near, far, standing)
    having = [some for some in sets if offer in some]
    others = [some for some in sets if offer not in some]
    if not others:
        return ("sure",)
    return ("open", having[0], others[0]) if having else ("vain",)


def sure_holds(near, far, standing, offer, thing):
    """Whether any value is a paper on an offer that stands."""
    word = judge_sure(near, far, standing, offer)[0]
    if is_paper(thing, "sure", 1) or is_paper(thing, "vain", 1):
        return thing[0] == word
    if not is_paper(thing, "open", 3):
        return False
    _, one, other = thing
    if not is_set(near.offers, one) or not is_set(near.offers, other):
        return False
    sets = settled_sets(near, far, standing)
    return one in sets and other in sets and offer in one and offer not in other


def sure_offers(near, far, standing):
    """The set of all sure offers."""
    sets = settled_sets(near, far, standing)
    return tuple([offer for offer in standing if all([offer in some for some in sets])])


def vain_offers(near, far, standing):
    """The set of all vain offers."""
    sets = settled_sets(near, far, standing)
    return tuple([offer for offer in standing if not any([offer in some for some in sets])])


def require_standing_offer(near, far, standing, offer):
    """Raise OtherOffers, BadSet, or BadOffer for a value that is no offer that stands."""
    require_equal_offers(near, far)
    require_set(near, standing)
    if not is_integer(offer) or offer not in standing:
        raise BadOffer(offer)

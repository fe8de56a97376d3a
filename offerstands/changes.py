"""What an offer that comes or goes changes of a settled part ([6.4])."""

from offerstands.chains import chain_ends
from offerstands.choosers import together, without
from offerstands.errors import BadOffer, BadSet
from offerstands.sides import are_wishing, is_settled
from offerstands.values import is_integer, is_integer_within


def with_offer(near, far, standing, part, offer):
    """The outcomes, in order, if an offer comes."""
    require_coming(near, far, standing, part, offer)
    return chain_ends(near, far, together(standing, (offer,)), part)


def without_offer(near, far, standing, part, offer):
    """The outcomes, in order, if an offer goes."""
    require_settled(near, far, standing, part)
    if not is_integer(offer) or offer not in standing:
        raise BadOffer(offer)
    return chain_ends(near, far, without(standing, (offer,)), without(part, (offer,)))


def is_touched(near, far, standing, part, offer):
    """Whether a settled part is not settled any more if an offer comes."""
    require_coming(near, far, standing, part, offer)
    return are_wishing(near, far, part, offer)


def require_settled(near, far, standing, part):
    """Raise OtherOffers, or BadSet also for a part that is not settled."""
    if not is_settled(near, far, standing, part):
        raise BadSet(part)


def require_coming(near, far, standing, part, offer):
    """Raise OtherOffers, BadSet, or BadOffer for a value that is no offer, or one that stands."""
    require_settled(near, far, standing, part)
    if not is_integer_within(offer, 0, near.offers - 1) or offer in standing:
        raise BadOffer(offer)

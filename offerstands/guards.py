"""Guards: firm offers that keep an offer from ever being picked ([2.5])."""

from offerstands.choosers import is_set, is_within, parts_of, together
from offerstands.errors import BadOffer
from offerstands.skylines import firm_beside, skyline_of
from offerstands.streams import picked, search, stands
from offerstands.trades import all_deeds, is_stream, offers_of, require_dated
from offerstands.values import is_integer, is_paper, require_equal_offers


def least_guards(chooser, trade, dated, offer):
    """All least guards of an offer, ascending."""
    require_standing(chooser, trade, dated, offer)
    guards = []
    # Shorter ones are ahead, so none that comes later lies within one that was found.
    for some in parts_of(firm_beside(trade, dated, offer)):
        if does_guard(chooser, some, offer) and not any([is_within(guard, some) for guard in guards]):
            guards.append(some)
    return tuple(sorted(guards))


def first_showing(chooser, trade, dated, offer):
    """The first stream that shows an offer, None if there is none."""
    require_standing(chooser, trade, dated, offer)
    if offer not in offers_of(skyline_of(chooser, trade, dated)):
        return None
    deeds = [deed for deed in all_deeds(trade) if deed != ("come", offer)]
    stream, _ = search(trade, deeds, (dated,), lambda state: offer in picked(chooser, state[0]))
    return stream


def judge_offer(chooser, trade, dated, offer):
    """A paper: a guard of an offer, or the first stream that shows it."""
    stream = first_showing(chooser, trade, dated, offer)
    if stream is None:
        return ("guarded", firm_beside(trade, dated, offer))
    return ("shown", stream)


def offer_holds(chooser, trade, dated, offer, thing):
    """Whether any value is a paper on an offer that stands."""
    require_standing(chooser, trade, dated, offer)
    if is_paper(thing, "guarded", 2) and is_set(len(trade), thing[1]):
        is_near = is_within(thing[1], firm_beside(trade, dated, offer))
        return is_near and does_guard(chooser, thing[1], offer)
    if is_paper(thing, "shown", 2) and is_stream(trade, thing[1]):
        end = stands(trade, thing[1], start=dated)
        return ("come", offer) not in thing[1] and offer in picked(chooser, end)
    return False


def does_guard(chooser, some, offer):
    """Whether a chooser does not take an offer beside a set."""
    return offer not in chooser.taken(together(some, (offer,)))


def require_standing(chooser, trade, dated, offer):
    """Raise OtherOffers, BadDated, or BadOffer for a value that is no offer that stands."""
    require_equal_offers(chooser, trade)
    require_dated(trade, dated)
    if not is_integer(offer) or offer not in offers_of(dated):
        raise BadOffer(offer)

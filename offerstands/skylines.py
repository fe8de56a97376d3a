"""Skylines: what can still be picked at some later moment ([2.4], [2.6])."""

from offerstands.choosers import together
from offerstands.errors import TooMany
from offerstands.streams import picked, search, stands
from offerstands.trades import (
    all_dated, all_deeds, is_dated, is_stream, offers_of, put_together, require_dated,
)
from offerstands.values import in_order, is_paper, require_equal_offers


def skyline(chooser, trade, dated):
    """The skyline of a dated set."""
    require_equal_offers(chooser, trade)
    require_dated(trade, dated)
    return skyline_of(chooser, trade, dated)


def is_skyline(chooser, trade, dated):
    """Whether a dated set is its own skyline."""
    return skyline(chooser, trade, dated) == dated


def joined(chooser, trade, one, other):
    """The skyline of two dated sets put together."""
    require_both(chooser, trade, one, other)
    return skyline_of(chooser, trade, put_together(one, other))


def skylines(chooser, trade, *, most=400):
    """All skylines, in order."""
    require_equal_offers(chooser, trade)
    # The skyline of a skyline is itself, so these are all.
    found = [dated for dated in all_dated(trade) if skyline_of(chooser, trade, dated) == dated]
    if len(found) > most:
        raise TooMany(most)
    return in_order(found)


def shown_ever(chooser, trade, dated):
    """The set of the offers that some stream shows."""
    return offers_of(skyline(chooser, trade, dated))


def are_ever_same(chooser, trade, one, other):
    """Whether two dated sets have the same picks behind each stream."""
    require_both(chooser, trade, one, other)
    return skyline_of(chooser, trade, one) == skyline_of(chooser, trade, other)


def first_parting(chooser, trade, one, other):
    """The first stream behind which the picks are unlike, None if there is none."""
    if are_ever_same(chooser, trade, one, other):
        return None
    stream, _ = search(
        trade, all_deeds(trade), (one, other),
        lambda state: picked(chooser, state[0]) != picked(chooser, state[1]),
    )
    return stream


def judge_ever(chooser, trade, one, other):
    """A paper: the skyline of both dated sets, or the first stream that parts them."""
    stream = first_parting(chooser, trade, one, other)
    if stream is None:
        return ("same", skyline_of(chooser, trade, one))
    return ("parted", stream)


def ever_holds(chooser, trade, one, other, thing):
    """Whether any value is a paper on whether two dated sets are ever the same."""
    require_both(chooser, trade, one, other)
    if is_paper(thing, "same", 2) and is_dated(trade, thing[1]):
        return skyline_of(chooser, trade, one) == thing[1] == skyline_of(chooser, trade, other)
    if is_paper(thing, "parted", 2) and is_stream(trade, thing[1]):
        ends = [stands(trade, thing[1], start=dated) for dated in (one, other)]
        return picked(chooser, ends[0]) != picked(chooser, ends[1])
    return False


def require_both(chooser, trade, one, other):
    """Raise OtherOffers, or BadDated for the first of two values that is no dated set."""
    require_equal_offers(chooser, trade)
    require_dated(trade, one)
    require_dated(trade, other)


def skyline_of(chooser, trade, dated):
    """The skyline of a dated set that is within the trade."""
    return tuple([
        (offer, days) for offer, days in dated
        if offer in chooser.taken(together(firm_beside(trade, dated, offer), (offer,)))
    ])


def firm_beside(trade, dated, offer):
    """The set of the firm others that stand with as many days as an offer, or more."""
    days_of = dict(dated)
    return tuple([
        other for other, days in dated
        if other != offer and other not in trade.loose and days >= days_of[offer]
    ])

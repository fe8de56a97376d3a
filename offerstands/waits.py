"""Pledges, a keeper's turns, keepings of known streams ([8.1], [8.4])."""

from offerstands.choosers import all_sets, is_within, parts_of
from offerstands.errors import BadPosition, TooMany
from offerstands.positions import BEGINNING, is_kept_of, require_deed, require_house
from offerstands.sides import do_agree, wished_of
from offerstands.streams import behind, moments
from offerstands.trades import all_dated, offers_of, require_stream
from offerstands.values import require_equal_offers


def is_pledge(near, far, trade, thing):
    """Whether any value is a pledge."""
    require_house(near, far, trade)
    return is_kept_of(trade, thing) and do_agree(near, far, thing[1])


def pledges_of(near, far, trade, *, most=400):
    """All pledges, ascending."""
    found = every_pledge(near, far, trade)
    if len(found) > most:
        raise TooMany(most)
    return found


def waiting_in(near, far, pledge):
    """The set of the offers that wait in a pledge."""
    require_equal_offers(near, far)
    return wished_of(near, far, offers_of(pledge[0]), pledge[1])


def keeper_turns(near, far, trade, pledge, deed):
    """All pledges to which turns lead by a deed, ascending."""
    if not is_pledge(near, far, trade, pledge):
        raise BadPosition(pledge)
    require_deed(trade, deed)
    return tuple(turns_by(trade, agreed_table(near, far), pledge, deed))


def is_keeping(near, far, trade, stream, thing):
    """Whether any value is a keeping of a stream."""
    require_house(near, far, trade)
    require_stream(trade, stream)
    if not isinstance(thing, tuple) or len(thing) != len(stream):
        return False
    pledges = list(zip(moments(trade, stream), [(), *thing]))
    if not all([is_pledge(near, far, trade, pledge) for pledge in pledges]):
        return False
    return all([is_word_kept(one, other) for one, other in zip(pledges, pledges[1:])])


def burden_of(near, far, trade, stream, keeping):
    """The most offers that wait at once in a keeping."""
    require_house(near, far, trade)
    pledges = list(zip(moments(trade, stream), [(), *keeping]))
    return max([len(waiting_in(near, far, pledge)) for pledge in pledges])


def least_burden(near, far, trade, stream):
    """The least burden of all keepings of a stream."""
    return burdens_ahead(near, far, trade, stream)[0][BEGINNING]


def first_keeping(near, far, trade, stream):
    """The first keeping of a stream that has the least burden."""
    ahead = burdens_ahead(near, far, trade, stream)
    pledge = BEGINNING
    keeping = []
    for rows in ahead[1:]:
        # Whatever goes on within the burden of all is as good: the least sets are the first keeping.
        few = [other for other in rows if is_word_kept(pledge, other) and rows[other] <= ahead[0][BEGINNING]]
        pledge = min(few)
        keeping.append(pledge[1])
    return tuple(keeping)


def agreed_table(near, far):
    """For each set of offers all agreed parts of it, in order."""
    return {
        some: [part for part in parts_of(some) if do_agree(near, far, part)]
        for some in all_sets(near.offers)
    }


def every_pledge(near, far, trade):
    """All pledges, ascending, however many; raise OtherOffers."""
    require_house(near, far, trade)
    agreed = agreed_table(near, far)
    found = [(dated, kept) for dated in all_dated(trade) for kept in agreed[offers_of(dated)]]
    return tuple(sorted(found))


def is_word_kept(pledge, following):
    """Whether all that was kept in a pledge and still stands is kept in the following one."""
    standing = offers_of(following[0])
    return is_within([offer for offer in pledge[1] if offer in standing], following[1])


def turns_by(trade, agreed, pledge, deed):
    """A list of all pledges to which turns lead by a deed, ascending."""
    dated = behind(trade, pledge[0], deed)
    found = [(dated, kept) for kept in agreed[offers_of(dated)]]
    return sorted([following for following in found if is_word_kept(pledge, following)])


def burdens_ahead(near, far, trade, stream):
    """For each moment of a stream the pledges there, with the least that waits at once there and from then on."""
    require_house(near, far, trade)
    agreed = agreed_table(near, far)
    ahead = []
    for dated in reversed(moments(trade, stream)):
        pledges = [(dated, kept) for kept in agreed[offers_of(dated)]]
        rows = {pledge: len(waiting_in(near, far, pledge)) for pledge in pledges}
        if ahead:
            later = ahead[-1]
            for pledge in pledges:
                least = min([later[other] for other in later if is_word_kept(pledge, other)])
                rows[pledge] = max(rows[pledge], least)
        ahead.append(rows)
    return ahead[::-1]

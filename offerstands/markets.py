"""Markets: houses that tell lists of their offers, and a taker ([10.1], [10.4])."""

from offerstands.choosers import is_within
from offerstands.corners import require_apart
from offerstands.errors import BadLists, BadShares
from offerstands.lists import by_lists, is_list
from offerstands.offices import do_share
from offerstands.rounds import best_settled


class Market:
    """A taker, the shares of the houses, and their true lists."""

    def __init__(self, taker, shares, lists):
        require_apart(taker)
        if not do_share(taker.offers, shares):
            raise BadShares(shares)
        if not are_lists_of(shares, lists):
            raise BadLists(lists)
        self.taker = taker
        self.shares = shares
        self.lists = lists

    def __len__(self):
        return len(self.shares)

    def __eq__(self, other):
        if not isinstance(other, Market):
            return False
        return self.taker == other.taker and self.shares == other.shares and self.lists == other.lists


def are_told(market, thing):
    """Whether any value is told lists."""
    return are_lists_of(market.shares, thing)


def houses_chooser(market, told):
    """The chooser that told lists tell."""
    require_told_lists(market, told)
    return by_lists(market.taker.offers, told)


def outcome(market, told):
    """The settled set of all offers that is best for the houses' side."""
    chooser = houses_chooser(market, told)
    return best_settled(chooser, market.taker, tuple(range(market.taker.offers)))


def gets(market, told, house):
    """The offer that a house gets, None for nothing."""
    for offer in outcome(market, told):
        # A house's list takes one offer at most, so there is no further one of its share.
        if offer in market.shares[house]:
            return offer
    return None


def told_by(market, told, house, row):
    """The told lists in which a house tells another list."""
    require_told_lists(market, told)
    require_list_of(market, house, row)
    return (*told[:house], row, *told[house + 1:])


def has_rather(market, house, one, other):
    """Whether a house has one offer of its share, or nothing, rather than another one."""
    return place_of(market, house, one) < place_of(market, house, other)


def are_cut(market, told, longer):
    """Whether told lists are cut from others."""
    require_told_lists(market, told)
    require_told_lists(market, longer)
    return all([row == other[:len(row)] for row, other in zip(told, longer)])


def are_lists_of(shares, thing):
    """Whether any value is a tuple with a list of offers of its share for each house."""
    if not isinstance(thing, tuple) or len(thing) != len(shares):
        return False
    return all([is_list_of(share, row) for share, row in zip(shares, thing)])


def is_list_of(share, thing):
    """Whether any value is a list of offers of a share."""
    return is_list(share[-1] + 1, thing) and is_within(thing, share)


def require_told_lists(market, thing):
    """Raise BadLists for a value that is no told lists."""
    if not are_told(market, thing):
        raise BadLists(thing)


def require_list_of(market, house, thing):
    """Raise BadLists for a value that is no list of offers of a house's share."""
    if not is_list_of(market.shares[house], thing):
        raise BadLists(thing)


def place_of(market, house, offer):
    """The place of an offer, or of nothing, in what a house has rather, by its true list."""
    row = market.lists[house]
    if offer is None:
        return len(row)
    return row.index(offer) if offer in row else len(row) + 1

"""Groups of houses that gain by lies together ([10.3])."""

from offerstands.choosers import is_set, parts_of
from offerstands.lies import rather_offers
from offerstands.markets import outcome
from offerstands.values import is_alike, is_integer, is_paper


def is_group(market, thing):
    """Whether any value is a group of a market's houses."""
    return is_set(len(market), thing) and len(thing) > 0


def group_gain(market, group):
    """The first offers, one for each house of a group, by which it gains, None if there are none."""
    for offers in wanted_offers(market, group):
        if first_loser(market, group, offers) is None:
            return offers
    return None


def first_group(market):
    """The first group that gains, None if none does."""
    for group in parts_of(tuple(range(len(market)))):
        if is_group(market, group) and group_gain(market, group) is not None:
            return group
    return None


def judge_group(market, group):
    """A paper: the first offers by which a group gains, or for all offers a house that does not get its one."""
    offers = group_gain(market, group)
    if offers is not None:
        return ("gain", offers)
    wanted = wanted_offers(market, group)
    return ("none", tuple([(offers, first_loser(market, group, offers)) for offers in wanted]))


def group_holds(market, group, thing):
    """Whether any value is a paper on whether a group gains."""
    wanted = wanted_offers(market, group)
    if is_paper(thing, "gain", 2):
        gaining = [offers for offers in wanted if first_loser(market, group, offers) is None]
        return any([is_alike(offers, thing[1]) for offers in gaining])
    if not is_paper(thing, "none", 2) or not isinstance(thing[1], tuple) or len(thing[1]) != len(wanted):
        return False
    return all([is_loss(market, group, offers, item) for offers, item in zip(wanted, thing[1])])


def wanted_offers(market, group):
    """A list of all tuples of offers that the houses of a group would have rather than what they get, ascending."""
    found = [()]
    for house in group:
        rather = sorted(rather_offers(market, house))
        found = [(*offers, offer) for offers in found for offer in rather]
    return found


def losers(market, group, offers):
    """A list of the houses of a group that do not get their offers if all of them tell these alone."""
    alone = dict(zip(group, offers))
    told = [(alone[house],) if house in alone else row for house, row in enumerate(market.lists)]
    there = outcome(market, tuple(told))
    return [house for house in group if alone[house] not in there]


def first_loser(market, group, offers):
    """The first house of a group that does not get its offer, None if all of them do."""
    found = losers(market, group, offers)
    return found[0] if found else None


def is_loss(market, group, offers, thing):
    """Whether any value is a pair of some offers and a house of a group that does not get its one of them."""
    if not isinstance(thing, tuple) or len(thing) != 2 or not is_integer(thing[1]):
        return False
    return is_alike(thing[0], offers) and thing[1] in losers(market, group, offers)

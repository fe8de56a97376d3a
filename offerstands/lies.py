"""Lies: houses that gain by telling other lists than their true ones ([10.2])."""

from offerstands.markets import gets, has_rather, outcome, told_by
from offerstands.values import is_alike, is_integer, is_integer_within, is_paper


def does_gain(market, house, row):
    """Whether a house gains by telling a list."""
    got = gets(market, told_by(market, market.lists, house, row), house)
    return has_rather(market, house, got, gets(market, market.lists, house))


def first_gain(market):
    """The first house that gains, with the first offer of its true list by which it does, None if none gains."""
    for house in range(len(market)):
        for offer in rather_offers(market, house):
            if does_get_alone(market, house, offer):
                return (house, offer)
    return None


def judge_lies(market):
    """A paper: the first house that gains, or what comes of all offers that houses would have rather."""
    pair = first_gain(market)
    if pair is not None:
        return ("gains", *pair)
    rows = [
        [(offer, outcome_alone(market, house, offer)) for offer in rather_offers(market, house)]
        for house in range(len(market))
    ]
    return ("true", tuple([tuple(row) for row in rows]))


def lies_hold(market, thing):
    """Whether any value is a paper on whether a house gains."""
    if is_paper(thing, "gains", 3):
        _, house, offer = thing
        if not is_integer_within(house, 0, len(market) - 1) or not is_integer(offer):
            return False
        return offer in rather_offers(market, house) and does_get_alone(market, house, offer)
    # All of this paper is told by the market.
    return is_paper(thing, "true", 2) and is_alike(judge_lies(market), thing)


def menu(market, house):
    """The set of the offers that a house can get by some list."""
    # What it gets by a list it also gets by telling this offer alone.
    return tuple([offer for offer in market.shares[house] if does_get_alone(market, house, offer)])


def outcome_alone(market, house, offer):
    """The outcome if a house tells an offer alone, all others their true lists."""
    return outcome(market, told_by(market, market.lists, house, (offer,)))


def does_get_alone(market, house, offer):
    """Whether a house gets an offer if it tells this one alone."""
    return offer in outcome_alone(market, house, offer)


def rather_offers(market, house):
    """A list of the offers that a house would have rather than what it gets, in the order of its true list."""
    got = gets(market, market.lists, house)
    return [offer for offer in market.lists[house] if has_rather(market, house, offer, got)]

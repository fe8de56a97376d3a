"""Choosers that are made of lists, or of other choosers ([1.6])."""

from offerstands.choosers import all_sets, chooser_of, require_set, together, without
from offerstands.values import require_equal_offers


def first_some(offers, row, many):
    """The chooser that takes so many of the first offers of a list."""
    return chooser_of(offers, lambda some: first_of_row(row, many, some))


def first_of_row(row, many, some):
    """The set of so many of the first offers of a list that are in a set."""
    there = [offer for offer in row if offer in some]
    return tuple(sorted(there[:many]))


def either_of(one, other):
    """The chooser that takes what one of two choosers takes."""
    require_equal_offers(one, other)
    return chooser_of(one.offers, lambda some: together(one.taken(some), other.taken(some)))


def in_turn(one, other):
    """The chooser that takes what the first one takes, and of the rest what the second one takes."""
    require_equal_offers(one, other)
    return chooser_of(one.offers, lambda some: taken_in_turn(one, other, some))


def taken_in_turn(one, other, some):
    """What two choosers take of a set, the second one of what the first one leaves."""
    ahead = one.taken(some)
    return together(ahead, other.taken(without(some, ahead)))


def leaving_out(chooser, some):
    """The chooser that takes what another one takes of the offers that are not left out."""
    require_set(chooser, some)
    return chooser_of(chooser.offers, lambda whole: chooser.taken(without(whole, some)))


def renamed(chooser, order):
    """The chooser whose offers are called by what stands at their places of the order."""
    return chooser_of(chooser.offers, lambda some: taken_renamed(chooser, order, some))


def taken_renamed(chooser, order, some):
    """What a chooser takes of a set of new names, by its new names."""
    before = tuple([offer for offer, name in enumerate(order) if name in some])
    return tuple(sorted([order[offer] for offer in chooser.taken(before)]))


def first_other_picks(one, other):
    """The first set of which two choosers take unlike offers, None if there is none."""
    require_equal_offers(one, other)
    for some in all_sets(one.offers):
        if one.taken(some) != other.taken(some):
            return some
    return None

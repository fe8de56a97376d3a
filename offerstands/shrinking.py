"""Choosers that take fewer offers where more stand ([5.5])."""

from offerstands.choosers import all_sets, together, without


def does_shrink(chooser):
    """Whether a chooser takes fewer offers of some set with an offer than without it."""
    return first_shrinking(chooser) is not None


def first_shrinking(chooser):
    """The first pair of a set and an offer that shows that a chooser shrinks, None if there is none."""
    every = tuple(range(chooser.offers))
    for some in all_sets(chooser.offers):
        for offer in without(every, some):
            if len(chooser.taken(some)) > len(chooser.taken(together(some, (offer,)))):
                return (some, offer)
    return None

"""Closed sets, corners, fewest lists ([1.4], [1.5])."""

from offerstands.choosers import all_sets, is_set, is_within, require_set, together, without
from offerstands.errors import Against
from offerstands.lists import are_lists, do_lists_tell, first_against, is_apart, list_through
from offerstands.values import are_in_order, in_order, is_paper


def closed(chooser, some):
    """The set that closes a set."""
    require_apart(chooser)
    require_set(chooser, some)
    return closing(chooser, some)


def closed_sets(chooser):
    """All closed sets, in order."""
    require_apart(chooser)
    return tuple([some for some in all_sets(chooser.offers) if closing(chooser, some) == some])


def same_picks(chooser, some):
    """All sets of which the same is taken as of a set, in order."""
    require_apart(chooser)
    require_set(chooser, some)
    picks = chooser.taken(some)
    return tuple([other for other in all_sets(chooser.offers) if chooser.taken(other) == picks])


def corners(chooser):
    """All pairs of an offer and a corner of it, ascending."""
    require_apart(chooser)
    return tuple(all_corners(chooser))


def many_lists(chooser):
    """How many lists are fewest."""
    require_apart(chooser)
    return len(chains_of(all_corners(chooser)))


def fewest_lists(chooser):
    """So few lists that tell the chooser."""
    require_apart(chooser)
    return lists_of_corners(chooser, all_corners(chooser))


def judge_fewest(chooser):
    """A paper: fewest lists, and as many corners that need unlike ones."""
    require_apart(chooser)
    pairs = all_corners(chooser)
    return ("fewest", lists_of_corners(chooser, pairs), widest_corners(pairs))


def fewest_hold(chooser, thing):
    """Whether any value is a paper on the fewest lists of the chooser."""
    if not is_paper(thing, "fewest", 3) or not is_apart(chooser):
        return False
    _, lists, sets = thing
    if not are_lists(chooser.offers, lists) or not are_unlike_corners(chooser, sets):
        return False
    return len(lists) == len(sets) and do_lists_tell(chooser, lists)


def require_apart(chooser):
    """Raise Against for a chooser that cannot be asked apart."""
    pair = first_against(chooser)
    if pair is not None:
        raise Against(pair[0], pair[1])


def closing(chooser, some):
    """The set that closes a set of a chooser that can be asked apart."""
    picks = chooser.taken(some)
    # What changes nothing one by one changes nothing together either.
    return tuple([
        offer for offer in range(chooser.offers)
        if chooser.taken(together(some, (offer,))) == picks
    ])


def is_corner(chooser, offer, some):
    """Whether a set without an offer is a corner of it."""
    whole = together(some, (offer,))
    if offer not in chooser.taken(whole):
        return False
    # One further offer is enough: what is not taken beside it is not taken beside more.
    further = without(tuple(range(chooser.offers)), whole)
    return not any([offer in chooser.taken(together(whole, (other,))) for other in further])


def all_corners(chooser):
    """A list of all pairs of an offer and a corner of it, ascending."""
    sets = sorted(list(all_sets(chooser.offers)))
    return [
        (offer, some) for offer in range(chooser.offers) for some in sets
        if offer not in some and is_corner(chooser, offer, some)
    ]


def are_unlike_corners(chooser, thing):
    """Whether any value is a tuple of corners, in order, none of which lies within another one."""
    if not isinstance(thing, tuple):
        return False
    for some in thing:
        if not is_set(chooser.offers, some):
            return False
    if not are_in_order(thing):
        return False
    every = [some for _, some in all_corners(chooser)]
    if not all([some in every for some in thing]):
        return False
    return not any([is_within(one, other) for one in thing for other in thing if one != other])


def lists_of_corners(chooser, pairs):
    """A list for each chain of corners: it has each offer ahead of what its corner has."""
    rows = []
    for chain in chains_of(pairs):
        steps = [(together(pairs[at][1], (pairs[at][0],)), pairs[at][0]) for at in chain]
        rows.append(list_through(chooser, steps))
    return tuple(rows)


def widest_corners(pairs):
    """As many corners as there can be, in order, none of which lies within another one."""
    lower = lower_corners(pairs)
    upper_of = greatest_links(lower)
    linked = list(upper_of.values())
    uppers = {at: True for at in range(len(pairs)) if at not in linked}
    lowers = {}
    waiting = list(uppers)
    # What is met from the corners without a lower link, to and fro, tells a least cover of the pairs
    # that lie within one another (D. Koenig); the corners that need no cover are the widest ones.
    while waiting:
        high = waiting.pop()
        for at in lower[high]:
            lowers[at] = True
            if upper_of[at] not in uppers:
                uppers[upper_of[at]] = True
                waiting.append(upper_of[at])
    return in_order([some for at, (_, some) in enumerate(pairs) if at in uppers and at not in lowers])


def chains_of(pairs):
    """The fewest chains of places in the list of corners, each corner within the one ahead."""
    upper_of = greatest_links(lower_corners(pairs))
    lower_of = {upper_of[at]: at for at in upper_of}
    chains = []
    for top in range(len(pairs)):
        if top not in upper_of:
            chain = [top]
            while chain[-1] in lower_of:
                chain.append(lower_of[chain[-1]])
            chains.append(chain)
    return chains


def lower_corners(pairs):
    """For each corner the places of all others that lie within it."""
    sets = [some for _, some in pairs]
    return [
        [low for low, part in enumerate(sets) if part != some and is_within(part, some)]
        for some in sets
    ]


def greatest_links(lower):
    """As many links as there can be from a corner to one within it, told from below.

    Each corner has at most one link to it and one from it.
    """
    upper_of = {}
    for high in range(len(lower)):
        can_link(lower, upper_of, high, {})
    return upper_of


def can_link(lower, upper_of, high, tried):
    """Link a corner to one within it, moving other links; tell whether it can be done."""
    for low in lower[high]:
        if low not in tried:
            tried[low] = True
            if low not in upper_of or can_link(lower, upper_of, upper_of[low], tried):
                upper_of[low] = high
                return True
    return False

"""What slips tell, and how few marks are enough ([9.2], [9.3])."""

from offerstands.offices import (
    all_slips, is_office, marks_used, require_office, require_shares, view_of, views_of,
)
from offerstands.skylines import skyline_of
from offerstands.streams import picked
from offerstands.trades import is_dated
from offerstands.values import are_in_order, in_order, is_alike, is_paper, require_equal_offers


def marks_needed(chooser, trade, shares, word):
    """The fewest marks, share by share."""
    require_hands(chooser, trade, shares)
    return tuple([len(first_views(chooser, trade, word, views_of(trade, share))) for share in shares])


def least_office(chooser, trade, shares, word):
    """The office that gives each view the number of its picks, or of its skyline."""
    require_hands(chooser, trade, shares)
    return tuple([numbered_views(chooser, trade, word, views_of(trade, share)) for share in shares])


def does_office_tell(chooser, trade, shares, word, office):
    """Whether dated sets with one slip have the same picks, or are ever the same."""
    return judge_office(chooser, trade, shares, word, office)[0] == "tells"


def judge_office(chooser, trade, shares, word, office):
    """A paper: what goes with each slip, or two dated sets with one slip that are not the same."""
    require_slips(chooser, trade, shares, office)
    return marks_paper(chooser, trade, word, all_slips(trade, shares, office))


def office_holds(chooser, trade, shares, word, office, thing):
    """Whether any value is a paper on whether an office tells."""
    require_slips(chooser, trade, shares, office)
    return marks_paper_holds(chooser, trade, word, all_slips(trade, shares, office), thing)


def judge_fewest_marks(chooser, trade, shares, word):
    """A paper: an office with fewest marks, and views of each share that need as many."""
    office = least_office(chooser, trade, shares, word)
    bars = [
        in_order(list(first_views(chooser, trade, word, views_of(trade, share)).values())) for share in shares
    ]
    return ("fewest", office, tuple(bars))


def fewest_marks_hold(chooser, trade, shares, word, thing):
    """Whether any value is a paper on the fewest marks."""
    require_hands(chooser, trade, shares)
    if not is_paper(thing, "fewest", 3) or not is_office(trade, shares, thing[1]):
        return False
    _, office, bars = thing
    if not isinstance(bars, tuple) or len(bars) != len(shares):
        return False
    for share, bar, many in zip(shares, bars, marks_used(trade, shares, office)):
        if not is_bar(chooser, trade, word, share, bar) or len(bar) != many:
            return False
    return does_office_tell(chooser, trade, shares, word, office)


def told_by_slip(chooser, trade, shares, word, office, slip):
    """The picks, or the skyline, of the dated sets with a slip, None for any value that is the slip of none."""
    require_slips(chooser, trade, shares, office)
    slips = all_slips(trade, shares, office)
    for dated in slips:
        if is_alike(slips[dated], slip):
            return told_of(chooser, trade, word, dated)
    return None


def require_hands(chooser, trade, shares):
    """Raise OtherOffers, or BadShares."""
    require_equal_offers(chooser, trade)
    require_shares(trade, shares)


def require_slips(chooser, trade, shares, office):
    """Raise OtherOffers, BadShares, or BadOffice."""
    require_equal_offers(chooser, trade)
    require_office(trade, shares, office)


def told_of(chooser, trade, word, dated):
    """What is to be told of a dated set: its picks, with the word "on" its skyline."""
    if word == "on":
        return skyline_of(chooser, trade, dated)
    return picked(chooser, dated)


def first_views(chooser, trade, word, views):
    """For all that is told of some views the first of these views, in the order of what is told."""
    found = {}
    for view in views:
        told = told_of(chooser, trade, word, view)
        if told not in found:
            found[told] = view
    return {told: found[told] for told in in_order(list(found))}


def numbered_views(chooser, trade, word, views):
    """The pairs of each view and the number of what is told of it."""
    order = list(first_views(chooser, trade, word, views))
    return tuple([(view, order.index(told_of(chooser, trade, word, view))) for view in views])


def marks_paper(chooser, trade, word, marks):
    """A paper: what goes with each mark, or two dated sets with one mark of which unlike things are told.

    Marks are a dict with the mark, or the slip, of each dated set within the trade.
    """
    found = {}
    for dated in marks:
        mark = marks[dated]
        if mark not in found:
            found[mark] = dated
        elif told_of(chooser, trade, word, found[mark]) != told_of(chooser, trade, word, dated):
            return ("fails", found[mark], dated)
    rows = [(mark, told_of(chooser, trade, word, found[mark])) for mark in found]
    return ("tells", tuple(sorted(rows)))


def marks_paper_holds(chooser, trade, word, marks, thing):
    """Whether any value is a paper on whether such marks tell."""
    if is_paper(thing, "tells", 2):
        # What goes with a mark is told by any dated set with it, so there is just one such paper.
        return is_alike(marks_paper(chooser, trade, word, marks), thing)
    if not is_paper(thing, "fails", 3) or not is_dated(trade, thing[1]) or not is_dated(trade, thing[2]):
        return False
    _, one, other = thing
    told = told_of(chooser, trade, word, one)
    return marks[one] == marks[other] and told != told_of(chooser, trade, word, other)


def is_bar(chooser, trade, word, share, thing):
    """Whether any value is a tuple, in order, of views of a share of which unlike things are told."""
    if not isinstance(thing, tuple):
        return False
    if not all([is_dated(trade, view) and view_of(share, view) == view for view in thing]):
        return False
    return are_in_order(thing) and len(first_views(chooser, trade, word, thing)) == len(thing)

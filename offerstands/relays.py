"""Relays: registrars who write in a row, each one behind the mark ahead of it ([9.4])."""

from offerstands.choosers import together
from offerstands.errors import BadRelay
from offerstands.offices import is_mark, require_shares, view_of, views_of
from offerstands.slips import first_views, marks_paper, marks_paper_holds, require_hands, told_of
from offerstands.trades import all_dated, put_together, require_dated
from offerstands.values import is_alike, require_equal_offers


def is_relay(trade, shares, thing):
    """Whether any value is a relay."""
    require_shares(trade, shares)
    if not isinstance(thing, tuple) or len(thing) != len(shares):
        return False
    marks = [0]
    for share, table in zip(shares, thing):
        if not is_table(marks, views_of(trade, share), table):
            return False
        marks = sorted(set([following for _, _, following in table]))
    return True


def marks_along(trade, shares, relay, dated):
    """The marks that are written, one for each share."""
    require_relay(trade, shares, relay)
    require_dated(trade, dated)
    return marks_by(shares, relay_tables(relay), dated)


def marks_in_row(chooser, trade, shares, word):
    """The fewest marks in a row, share by share."""
    require_hands(chooser, trade, shares)
    return tuple([
        len(first_views(chooser, trade, word, views_of(trade, some))) for some in shares_so_far(shares)
    ])


def least_relay(chooser, trade, shares, word):
    """The relay whose marks are the numbers of the picks, or skylines, of what stands in the shares so far."""
    require_hands(chooser, trade, shares)
    relay = []
    ahead = [()]
    for share, some in zip(shares, shares_so_far(shares)):
        found = first_views(chooser, trade, word, views_of(trade, some))
        order = list(found)
        # What is told of sets put together is told by any sets of which the same is told.
        relay.append(tuple([
            (mark, view, order.index(told_of(chooser, trade, word, put_together(stood, view))))
            for mark, stood in enumerate(ahead) for view in views_of(trade, share)
        ]))
        ahead = list(found.values())
    return tuple(relay)


def does_relay_tell(chooser, trade, shares, word, relay):
    """Whether dated sets with one last mark have the same picks, or are ever the same."""
    return judge_relay(chooser, trade, shares, word, relay)[0] == "tells"


def judge_relay(chooser, trade, shares, word, relay):
    """A paper: what goes with each last mark, or two dated sets with one last mark that are not the same."""
    require_row(chooser, trade, shares, relay)
    return marks_paper(chooser, trade, word, last_marks(trade, shares, relay))


def relay_holds(chooser, trade, shares, word, relay, thing):
    """Whether any value is a paper on whether a relay tells."""
    require_row(chooser, trade, shares, relay)
    return marks_paper_holds(chooser, trade, word, last_marks(trade, shares, relay), thing)


def is_table(marks, views, thing):
    """Whether any value is a tuple of triples: each mark, with each view, and a mark that is written then."""
    heads = [(mark, view) for mark in marks for view in views]
    if not isinstance(thing, tuple) or len(thing) != len(heads):
        return False
    for head, item in zip(heads, thing):
        if not isinstance(item, tuple) or len(item) != 3:
            return False
        if not is_alike(item[:2], head) or not is_mark(item[2]):
            return False
    return True


def require_relay(trade, shares, thing):
    """Raise BadShares, or BadRelay for a value that is no relay."""
    if not is_relay(trade, shares, thing):
        raise BadRelay(thing)


def require_row(chooser, trade, shares, relay):
    """Raise OtherOffers, BadShares, or BadRelay."""
    require_equal_offers(chooser, trade)
    require_relay(trade, shares, relay)


def shares_so_far(shares):
    """For each share the set of the offers of all shares up to it."""
    found = []
    some = ()
    for share in shares:
        some = together(some, share)
        found.append(some)
    return found


def relay_tables(relay):
    """For each share the mark that is written behind a mark and a view."""
    return [{(mark, view): following for mark, view, following in table} for table in relay]


def marks_by(shares, tables, dated):
    """The marks that are written of a dated set, by the tables of all shares."""
    marks = []
    mark = 0
    for share, table in zip(shares, tables):
        mark = table[(mark, view_of(share, dated))]
        marks.append(mark)
    return tuple(marks)


def last_marks(trade, shares, relay):
    """For each dated set within the trade its last mark."""
    tables = relay_tables(relay)
    return {dated: marks_by(shares, tables, dated)[-1] for dated in all_dated(trade)}

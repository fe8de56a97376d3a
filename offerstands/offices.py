"""Offices: which mark each registrar writes of what it sees ([9.1], [9.2])."""

from offerstands.choosers import is_set
from offerstands.errors import BadOffice, BadShares
from offerstands.trades import all_dated, dated_of, require_dated
from offerstands.values import is_alike, is_integer


def are_shares(trade, thing):
    """Whether any value is shares of a trade's offers."""
    return do_share(len(trade), thing)


def views_of(trade, share):
    """All dated sets within the trade whose offers are in a set, ascending."""
    return tuple(sorted(dated_of(trade, share)))


def view_of(share, dated):
    """The part of a dated set whose offers are in a set."""
    return tuple([(offer, days) for offer, days in dated if offer in share])


def is_office(trade, shares, thing):
    """Whether any value is an office."""
    require_shares(trade, shares)
    if not isinstance(thing, tuple) or len(thing) != len(shares):
        return False
    return all([are_marked(views_of(trade, share), rows) for share, rows in zip(shares, thing)])


def slip_of(trade, shares, office, dated):
    """The marks of all views of a dated set."""
    require_office(trade, shares, office)
    require_dated(trade, dated)
    return slip_by(shares, mark_tables(office), dated)


def marks_used(trade, shares, office):
    """How many unlike marks there are for each share."""
    require_office(trade, shares, office)
    return tuple([len(set([mark for _, mark in rows])) for rows in office])


def do_share(offers, thing):
    """Whether any value is a tuple of sets, none of them bare, that have each of so many offers once."""
    if not isinstance(thing, tuple):
        return False
    if not all([is_set(offers, share) and len(share) > 0 for share in thing]):
        return False
    return sorted([offer for share in thing for offer in share]) == list(range(offers))


def is_mark(thing):
    """Whether any value is an integer from 0 on."""
    return is_integer(thing) and thing >= 0


def are_marked(views, thing):
    """Whether any value is a tuple of pairs of a view and a mark, one for each of the views, in their order."""
    if not isinstance(thing, tuple) or len(thing) != len(views):
        return False
    for view, item in zip(views, thing):
        if not isinstance(item, tuple) or len(item) != 2:
            return False
        if not is_alike(item[0], view) or not is_mark(item[1]):
            return False
    return True


def require_shares(trade, thing):
    """Raise BadShares for a value that is no shares of the trade's offers."""
    if not are_shares(trade, thing):
        raise BadShares(thing)


def require_office(trade, shares, thing):
    """Raise BadShares, or BadOffice for a value that is no office."""
    if not is_office(trade, shares, thing):
        raise BadOffice(thing)


def mark_tables(office):
    """For each share the mark of each view."""
    return [dict(rows) for rows in office]


def slip_by(shares, tables, dated):
    """The slip of a dated set, by the marks of the views of all shares."""
    return tuple([table[view_of(share, dated)] for share, table in zip(shares, tables)])


def all_slips(trade, shares, office):
    """For each dated set within the trade its slip."""
    tables = mark_tables(office)
    return {dated: slip_by(shares, tables, dated) for dated in all_dated(trade)}

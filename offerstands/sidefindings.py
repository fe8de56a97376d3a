"""Findings of parts 5 to 10: what is said of sides, registrars and markets, with its paper ([12.1])."""

from offerstands.chains import chain_holds
from offerstands.chooserfindings import chooser_read, is_accepted, is_told
from offerstands.groups import group_holds, is_group
from offerstands.lies import lies_hold
from offerstands.markets import Market
from offerstands.means import mean_holds
from offerstands.plans import waiting_holds
from offerstands.relays import relay_holds
from offerstands.rings import ends_hold
from offerstands.sides import settled_holds
from offerstands.slips import fewest_marks_hold, office_holds
from offerstands.sure import sure_holds
from offerstands.trades import Trade
from offerstands.values import is_fraction, is_integer


def side_finding_holds(thing):
    """Whether any value is a finding of parts 5 to 10 that holds."""
    if not is_told(thing, dict(PARTS)):
        return False
    judge = JUDGING[thing[0]]
    return is_accepted(judge, thing[1:])


def does_settled_hold(near, far, standing, part, paper):
    """Whether a part is settled, or not, as a paper tells."""
    return settled_holds(chooser_read(near), chooser_read(far), standing, part, paper)


def does_choice_hold(near, far, standing, offer, paper):
    """Whether an offer is sure, vain or open, as a paper tells."""
    return sure_holds(chooser_read(near), chooser_read(far), standing, offer, paper)


def does_chain_hold(near, far, standing, part, paper):
    """Whether there is a chain, or none, as a paper tells."""
    return chain_holds(chooser_read(near), chooser_read(far), standing, part, paper)


def do_ends_hold(near, far, standing, part, paper):
    """Whether presses come to an end, or go round, as a paper tells."""
    return ends_hold(chooser_read(near), chooser_read(far), standing, part, paper)


def does_mean_hold(near, far, trade, fraction, paper):
    """Whether the mean is at most, or at least, a fraction, as a paper tells."""
    if not is_fraction(fraction):
        return False
    return mean_holds(chooser_read(near), chooser_read(far), Trade.read(trade), fraction, paper)


def does_waiting_hold(near, far, trade, number, paper):
    """Whether word can be kept with so many waiting, or not, as a paper tells."""
    if not is_integer(number) or number < 0:
        return False
    return waiting_holds(chooser_read(near), chooser_read(far), Trade.read(trade), number, paper)


def do_slips_hold(text, trade, shares, word, office, paper):
    """Whether an office tells, or not, as a paper tells."""
    if not is_moment(word):
        return False
    return office_holds(chooser_read(text), Trade.read(trade), shares, word, office, paper)


def do_marks_hold(text, trade, shares, word, paper):
    """Whether marks are fewest, as a paper tells."""
    if not is_moment(word):
        return False
    return fewest_marks_hold(chooser_read(text), Trade.read(trade), shares, word, paper)


def does_relay_hold(text, trade, shares, word, relay, paper):
    """Whether a relay tells, or not, as a paper tells."""
    if not is_moment(word):
        return False
    return relay_holds(chooser_read(text), Trade.read(trade), shares, word, relay, paper)


def do_lies_hold(text, shares, lists, paper):
    """Whether a house gains, or none, as a paper tells."""
    return lies_hold(Market(chooser_read(text), shares, lists), paper)


def does_group_hold(text, shares, lists, group, paper):
    """Whether a group gains, or not, as a paper tells."""
    market = Market(chooser_read(text), shares, lists)
    return is_group(market, group) and group_holds(market, group, paper)


def is_moment(thing):
    """Whether any value is one of the two words that tell of what moments picks are told."""
    return isinstance(thing, str) and thing in ("now", "on")


PARTS = {
    "settled": 5, "choice": 5, "chain": 5, "ends": 5, "mean": 5, "waiting": 5, "slips": 6, "marks": 5, "relay": 6,
    "lies": 4, "group": 5,
}
JUDGING = {
    "settled": does_settled_hold, "choice": does_choice_hold, "chain": does_chain_hold, "ends": do_ends_hold,
    "mean": does_mean_hold, "waiting": does_waiting_hold, "slips": do_slips_hold, "marks": do_marks_hold,
    "relay": does_relay_hold, "lies": do_lies_hold, "group": does_group_hold,
}

"""Findings of any part: what is said, with its paper ([12.1])."""

from offerstands.chooserfindings import chooser_finding_holds, chooser_read, is_accepted, is_told
from offerstands.errors import BadPart
from offerstands.gates import shown_holds
from offerstands.promises import fault_holds, is_promise
from offerstands.sidefindings import side_finding_holds
from offerstands.trades import Trade
from offerstands.values import is_integer, require_equal_offers


def finding_holds(thing):
    """Whether any value is a finding that holds, of any part."""
    if is_told(thing, {"shown": 4}):
        return is_accepted(does_shown_hold, thing[1:])
    if is_told(thing, {"fault": 5}):
        return is_accepted(does_fault_hold, thing[1:])
    return chooser_finding_holds(thing) or side_finding_holds(thing)


def does_shown_hold(room, before, after, stream):
    """Whether a stream shows that two editions are unlike."""
    if not is_integer(room) or room < 1:
        return False
    old, new = edition_read(before), edition_read(after)
    return len(old) == len(new) and shown_holds(room, old, new, stream)


def does_fault_hold(text, edition, promise, before, paper):
    """Whether an edition does not keep a promise, as a paper tells."""
    trade, new, old = Trade.read(text), edition_read(edition), edition_read(before)
    for chooser in (*new, *old):
        require_equal_offers(trade, chooser)
    if not is_promise(trade, len(new), promise):
        return False
    if promise[0] == "same settled" and len(old) != len(new):
        return False
    return fault_holds(trade, new, promise, old, paper)


def edition_read(texts):
    """The choosers with a tuple of one or two texts; raise an error for any other value."""
    if not isinstance(texts, tuple) or not 1 <= len(texts) <= 2:
        raise BadPart("choosers")
    return tuple([chooser_read(text) for text in texts])

"""Idle deeds: what can be left out of a stream ([2.7])."""

from offerstands.skylines import skyline_of
from offerstands.streams import stands
from offerstands.trades import require_dated, require_stream
from offerstands.values import require_equal_offers


def idle_deeds(chooser, trade, stream, *, start=()):
    """The places of all idle deeds of a stream, ascending."""
    require_stream_from(chooser, trade, stream, start)
    return tuple([at for at in range(len(stream)) if is_idle(chooser, trade, stream, start, at)])


def plain_stream(chooser, trade, stream, *, start=()):
    """What is left of a stream when its first idle deed is left out again and again."""
    require_stream_from(chooser, trade, stream, start)
    at = 0
    while at < len(stream):
        if is_idle(chooser, trade, stream, start, at):
            stream = leaving_out_at(stream, at)
            # A deed further ahead may be idle now.
            at = 0
        else:
            at += 1
    return stream


def is_idle(chooser, trade, stream, start, at):
    """Whether a stream without the deed at a place leaves the same skyline."""
    ends = [stands(trade, deeds, start=start) for deeds in (stream, leaving_out_at(stream, at))]
    return skyline_of(chooser, trade, ends[0]) == skyline_of(chooser, trade, ends[1])


def leaving_out_at(stream, at):
    """A stream without the deed at a place."""
    return stream[:at] + stream[at + 1:]


def require_stream_from(chooser, trade, stream, start):
    """Raise OtherOffers, BadDated for the start, or BadStream."""
    require_equal_offers(chooser, trade)
    require_dated(trade, start)
    require_stream(trade, stream)

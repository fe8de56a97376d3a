"""What stands behind streams, and what is picked there ([2.2], [2.3])."""

from offerstands.trades import aged, offers_of, require_dated, require_stream
from offerstands.values import first_walks, require_equal_offers


def stands(trade, stream, *, start=()):
    """What stands behind a stream, from a start on."""
    return moments(trade, stream, start=start)[-1]


def moments(trade, stream, *, start=()):
    """What stands behind each beginning of a stream, the bare one and the whole one, too."""
    require_dated(trade, start)
    require_stream(trade, stream)
    found = [start]
    for deed in stream:
        found.append(behind(trade, found[-1], deed))
    return tuple(found)


def picks_along(chooser, trade, stream, *, start=()):
    """The picks behind each beginning of a stream."""
    require_equal_offers(chooser, trade)
    return tuple([picked(chooser, dated) for dated in moments(trade, stream, start=start)])


def bringing(trade, dated):
    """The first stream behind which, from nothing on, a dated set stands."""
    require_dated(trade, dated)
    ages = [(trade.lives[offer] - days, offer) for offer, days in dated]
    stream = []
    # Each offer comes when just as many days are to pass as it has aged: no stream is shorter.
    for to_pass in reversed(range(max([age for age, _ in ages], default=0) + 1)):
        stream.extend([("come", offer) for age, offer in ages if age == to_pass])
        if to_pass > 0:
            stream.append(("day",))
    return tuple(stream)


def behind(trade, dated, deed):
    """What stands behind one deed."""
    if deed[0] == "day":
        return aged(dated, 1)
    others = [(offer, days) for offer, days in dated if offer != deed[1]]
    if deed[0] == "come":
        others.append((deed[1], trade.lives[deed[1]]))
    return tuple(sorted(others))


def picked(chooser, dated):
    """What a chooser takes of the offers that stand."""
    return chooser.taken(offers_of(dated))


def search(trade, deeds, starts, is_wanted):
    """The first stream of some deeds that leads to what is wanted, and all that was met ahead of it.

    What is met is a tuple with what stands behind a stream from each of the starts on; a function
    tells whether it is wanted. The stream is None if nothing that can be met is.
    """
    stream, walks = first_walks(
        starts,
        lambda state: [(deed, tuple([behind(trade, dated, deed) for dated in state])) for deed in deeds],
        is_wanted,
    )
    return (stream, list(walks))

"""Shelves: what is worth most under a calendar of comings (part 4)."""

from offerstands.choosers import is_set
from offerstands.errors import BadCalendar, BadWorths, TooMany
from offerstands.skylines import skyline_of
from offerstands.streams import behind
from offerstands.trades import all_deeds, is_dated, is_stream, require_dated, require_stream
from offerstands.values import all_walks, is_ascending, is_integer, is_paper, require_equal_offers


def is_calendar(trade, thing):
    """Whether any value is a calendar of a trade's offers."""
    if not isinstance(thing, tuple) or len(thing) == 0:
        return False
    return all([is_set(len(trade), item) for item in thing])


def does_keep(trade, calendar, stream):
    """Whether a stream keeps a calendar."""
    require_calendar(trade, calendar)
    require_stream(trade, stream)
    return do_deeds_keep(calendar, stream)


def spots(chooser, trade, calendar, *, most=400):
    """All pairs of the index of a day and a skyline that come, ascending."""
    require_equal_offers(chooser, trade)
    require_calendar(trade, calendar)
    return tuple(sorted(list(streams_to_spots(chooser, trade, calendar, most))))


def shelf(chooser, trade, calendar, worths, *, most=400):
    """The greatest worth of the skyline of a spot."""
    require_worths(chooser, trade, calendar, worths)
    streams = streams_to_spots(chooser, trade, calendar, most)
    return max([worth_of(worths, stood) for _, stood in streams])


def first_greatest(chooser, trade, calendar, worths, *, most=400):
    """The first stream that keeps a calendar and leaves a skyline of the greatest worth."""
    require_worths(chooser, trade, calendar, worths)
    streams = streams_to_spots(chooser, trade, calendar, most)
    greatest = max([worth_of(worths, stood) for _, stood in streams])
    return first_beyond(worths, streams, greatest - 1)


def judge_shelf(chooser, trade, calendar, worths, number, *, most=400):
    """A paper: lots that hold all spots, or the first stream whose skyline is worth more than a number."""
    require_worths(chooser, trade, calendar, worths)
    streams = streams_to_spots(chooser, trade, calendar, most)
    stream = first_beyond(worths, streams, number)
    if stream is not None:
        return ("beyond", stream)
    lots = [sorted([stood for at, stood in streams if at == index]) for index in range(len(calendar))]
    return ("within", tuple([tuple(lot) for lot in lots]))


def shelf_holds(chooser, trade, calendar, worths, number, thing):
    """Whether any value is a paper on whether all spots are worth a number at most."""
    require_worths(chooser, trade, calendar, worths)
    if is_paper(thing, "within", 2) and are_lots(chooser, trade, calendar, thing[1]):
        worth = max([worth_of(worths, stood) for lot in thing[1] for stood in lot], default=0)
        return worth <= number and () in thing[1][0] and are_lots_led_on(chooser, trade, calendar, thing[1])
    if is_paper(thing, "beyond", 2) and is_stream(trade, thing[1]):
        left = ()
        for deed in thing[1]:
            left = skyline_behind(chooser, trade, left, deed)
        return do_deeds_keep(calendar, thing[1]) and worth_of(worths, left) > number
    return False


def turns(chooser, trade, calendar):
    """How many rounds differ from all later ones, and the skylines behind the days of the later ones."""
    require_equal_offers(chooser, trade)
    require_calendar(trade, calendar)
    stood = ()
    rounds = []
    # What comes on some day of a round has come by the end of the first one, and comes anew in each
    # round: so the second round is as all later ones.
    for _ in range(2):
        found = []
        for some in calendar:
            for deed in [*[("come", offer) for offer in some], ("day",)]:
                stood = behind(trade, stood, deed)
            found.append(skyline_of(chooser, trade, stood))
        rounds.append(tuple(found))
    return (0 if rounds[0] == rounds[1] else 1, rounds[1])


def fewest_days(chooser, trade, calendar, dated, *, most=400):
    """The least number of days of a stream that keeps a calendar and leaves a skyline, None if none does."""
    require_equal_offers(chooser, trade)
    require_calendar(trade, calendar)
    require_dated(trade, dated)
    days_to = days_to_spots(chooser, trade, calendar)
    require_few(days_to, most)
    days = [days_to[spot] for spot in days_to if spot[1] == dated]
    return min(days, default=None)


def require_calendar(trade, thing):
    """Raise BadCalendar for a value that is no calendar of the trade's offers."""
    if not is_calendar(trade, thing):
        raise BadCalendar(thing)


def require_worths(chooser, trade, calendar, thing):
    """Raise OtherOffers, BadCalendar, or BadWorths for a value that is no tuple of worths."""
    require_equal_offers(chooser, trade)
    require_calendar(trade, calendar)
    if not isinstance(thing, tuple) or len(thing) != len(trade):
        raise BadWorths(thing)
    if not all([is_integer(item) and item >= 0 for item in thing]):
        raise BadWorths(thing)


def require_few(found, most):
    """Raise TooMany if there are more spots than told."""
    if len(found) > most:
        raise TooMany(most)


def do_deeds_keep(calendar, stream):
    """Whether each offer comes on a day that lets it come."""
    day = 0
    for deed in stream:
        if not is_let(calendar, day, deed):
            return False
        if deed == ("day",):
            day += 1
    return True


def is_let(calendar, day, deed):
    """Whether a calendar lets a deed be done so many days behind its first one."""
    return deed[0] != "come" or deed[1] in calendar[day % len(calendar)]


def worth_of(worths, dated):
    """The sum of the worths of the offers that stand."""
    return sum([worths[offer] for offer, _ in dated])


def skyline_behind(chooser, trade, dated, deed):
    """The skyline of what stands behind a deed; that of a dated set is as good as the set itself."""
    return skyline_of(chooser, trade, behind(trade, dated, deed))


def steps_from_spot(chooser, trade, calendar, spot):
    """The pairs of a deed that the calendar lets and the spot behind it, deeds ascending."""
    index, stood = spot
    rows = []
    for deed in [each for each in all_deeds(trade) if is_let(calendar, index, each)]:
        later = (index + 1) % len(calendar) if deed == ("day",) else index
        rows.append((deed, (later, skyline_behind(chooser, trade, stood, deed))))
    return rows


def streams_to_spots(chooser, trade, calendar, most):
    """The first stream to each spot, in the order of these streams; raise TooMany if there are more."""
    streams = all_walks((0, ()), lambda spot: steps_from_spot(chooser, trade, calendar, spot))
    require_few(streams, most)
    return streams


def first_beyond(worths, streams, number):
    """The first of the streams to spots whose skyline is worth more than a number, None if none is."""
    for spot in streams:
        if worth_of(worths, spot[1]) > number:
            return streams[spot]
    return None


def days_to_spots(chooser, trade, calendar):
    """For each spot the fewest days of a stream that leads to it."""
    days_to = {}
    rows = [(0, ())]
    days = 0
    while rows:
        later = []
        while rows:
            spot = rows.pop()
            if spot not in days_to:
                days_to[spot] = days
                for deed, found in steps_from_spot(chooser, trade, calendar, spot):
                    if deed == ("day",):
                        later.append(found)
                    else:
                        rows.append(found)
        rows = later
        days += 1
    return days_to


def are_lots(chooser, trade, calendar, thing):
    """Whether any value is a tuple with an ascending tuple of skylines for each day of the calendar."""
    if not isinstance(thing, tuple) or len(thing) != len(calendar):
        return False
    for lot in thing:
        if not isinstance(lot, tuple) or not all([is_dated(trade, item) for item in lot]):
            return False
        if not is_ascending(lot) or not all([skyline_of(chooser, trade, item) == item for item in lot]):
            return False
    return True


def are_lots_led_on(chooser, trade, calendar, lots):
    """Whether each deed that the calendar lets leads from each skyline of the lots to one of them."""
    there = {(index, stood): True for index, lot in enumerate(lots) for stood in lot}
    for spot in there:
        for _, found in steps_from_spot(chooser, trade, calendar, spot):
            if found not in there:
                return False
    return True

"""Promises of a show, and what shows that an edition does not keep them ([11.3])."""

from offerstands.choosers import is_set, parts_of
from offerstands.corners import fewest_hold, judge_fewest
from offerstands.means import is_below, mean_broken, mean_holds, restless_cells
from offerstands.plans import judge_waiting, waiting_holds
from offerstands.shelves import judge_shelf, shelf_holds
from offerstands.sides import settled_sets
from offerstands.skylines import skyline_of, skylines
from offerstands.streams import bringing, stands
from offerstands.trades import is_stream
from offerstands.values import (
    are_in_order, in_order, is_fraction, is_integer, is_integer_within, is_paper, require_equal_offers,
)

OF_ALL = ("lists", "shelf", "notes")
OF_TWO = ("waits", "breaks", "same settled")


def is_promise(trade, many, thing):
    """Whether any value is a promise for a trade and editions of so many choosers."""
    if not isinstance(thing, tuple) or len(thing) != 2:
        return False
    word, told = thing
    if word not in OF_ALL and (many != 2 or word not in OF_TWO):
        return False
    if word == "same settled":
        return is_set(len(trade), told)
    if word == "breaks":
        return is_fraction(told)
    return is_integer(told) and told >= 0


def fault_of(trade, choosers, promise, before):
    """What shows that an edition does not keep a promise, None if it does."""
    require_edition(trade, choosers, promise, before)
    word, told = promise
    find = FINDING[word]
    return find(trade, choosers, told, before)


def fault_holds(trade, choosers, promise, before, thing):
    """Whether any value shows that an edition does not keep a promise."""
    require_edition(trade, choosers, promise, before)
    word, told = promise
    judge = JUDGING[word]
    return judge(trade, choosers, told, before, thing)


def require_edition(trade, choosers, promise, before):
    """Raise OtherOffers unless the trade and all choosers that are asked for have equally many offers."""
    for chooser in choosers:
        require_equal_offers(trade, chooser)
    if promise[0] == "same settled":
        for chooser in before:
            require_equal_offers(trade, chooser)


def lists_fault(trade, choosers, bound, before):
    """The first chooser with more fewest lists, and its paper."""
    for number, chooser in enumerate(choosers):
        paper = judge_fewest(chooser)
        if len(paper[1]) > bound:
            return ("lists", number, paper)
    return None


def is_lists_fault(trade, choosers, bound, before, thing):
    """Whether any value is a chooser with more fewest lists, and a paper of it."""
    if not is_paper(thing, "lists", 3) or not is_integer_within(thing[1], 0, len(choosers) - 1):
        return False
    return fewest_hold(choosers[thing[1]], thing[2]) and len(thing[2][1]) > bound


def shelf_fault(trade, choosers, bound, before):
    """A paper that the first chooser leaves a skyline of more offers."""
    calendar, worths = every_day(trade)
    paper = judge_shelf(choosers[0], trade, calendar, worths, bound)
    return paper if paper[0] == "beyond" else None


def is_shelf_fault(trade, choosers, bound, before, thing):
    """Whether any value is a paper that the first chooser leaves a skyline of more offers."""
    calendar, worths = every_day(trade)
    return is_paper(thing, "beyond", 2) and shelf_holds(choosers[0], trade, calendar, worths, bound, thing)


def notes_fault(trade, choosers, bound, before):
    """One stream more than notes, which leave unlike skylines by the first chooser."""
    found = skylines(choosers[0], trade)
    if len(found) <= bound:
        return None
    return ("notes", in_order([bringing(trade, dated) for dated in found[:bound + 1]]))


def is_notes_fault(trade, choosers, bound, before, thing):
    """Whether any value is one stream more than notes, in order, which leave unlike skylines."""
    if not is_paper(thing, "notes", 2) or not isinstance(thing[1], tuple) or len(thing[1]) != bound + 1:
        return False
    if not all([is_stream(trade, stream) for stream in thing[1]]) or not are_in_order(thing[1]):
        return False
    left = [skyline_of(choosers[0], trade, stands(trade, stream)) for stream in thing[1]]
    return len(set(left)) == len(left)


def waits_fault(trade, choosers, bound, before):
    """A paper that bars whoever keeps word with so many waiting."""
    near, far = choosers
    paper = judge_waiting(near, far, trade, bound)
    return paper if paper[0] == "barred" else None


def is_waits_fault(trade, choosers, bound, before, thing):
    """Whether any value is a paper that bars whoever keeps word with so many waiting."""
    near, far = choosers
    return is_paper(thing, "barred", 2) and waiting_holds(near, far, trade, bound, thing)


def breaks_fault(trade, choosers, fraction, before):
    """A greater mean, and a restless paper for it."""
    near, far = choosers
    mean = mean_broken(near, far, trade)
    if not is_below(fraction, mean):
        return None
    return ("breaks", mean, ("restless", restless_cells(near, far, trade, mean)))


def is_breaks_fault(trade, choosers, fraction, before, thing):
    """Whether any value is a greater fraction, and a restless paper for it."""
    near, far = choosers
    if not is_paper(thing, "breaks", 3) or not is_fraction(thing[1]) or not is_below(fraction, thing[1]):
        return False
    return is_paper(thing[2], "restless", 2) and mean_holds(near, far, trade, thing[1], thing[2])


def settled_fault(trade, choosers, standing, before):
    """The first set that is settled by one edition and not by the other."""
    sets = [settled_sets(near, far, standing) for near, far in (choosers, before)]
    for some in parts_of(standing):
        if (some in sets[0]) != (some in sets[1]):
            return ("unlike", some)
    return None


def is_settled_fault(trade, choosers, standing, before, thing):
    """Whether any value is a set that is settled by one edition and not by the other."""
    if not is_paper(thing, "unlike", 2) or not is_set(len(trade), thing[1]):
        return False
    sets = [settled_sets(near, far, standing) for near, far in (choosers, before)]
    return (thing[1] in sets[0]) != (thing[1] in sets[1])


def every_day(trade):
    """The calendar of one day with all offers, and the worth 1 of each."""
    return ((tuple(range(len(trade))),), (1,) * len(trade))


FINDING = {
    "lists": lists_fault, "shelf": shelf_fault, "notes": notes_fault,
    "waits": waits_fault, "breaks": breaks_fault, "same settled": settled_fault,
}
JUDGING = {
    "lists": is_lists_fault, "shelf": is_shelf_fault, "notes": is_notes_fault,
    "waits": is_waits_fault, "breaks": is_breaks_fault, "same settled": is_settled_fault,
}

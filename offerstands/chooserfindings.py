"""Findings of parts 1 to 4: what is said of one chooser, with its paper ([12.1])."""

from offerstands.choosers import Chooser
from offerstands.corners import fewest_hold, require_apart
from offerstands.errors import BadQuestion, OfferError
from offerstands.guards import offer_holds
from offerstands.lists import apart_holds
from offerstands.notebooks import notebook_holds
from offerstands.oneness import one_holds
from offerstands.shelves import shelf_holds
from offerstands.skylines import ever_holds, skyline
from offerstands.trades import Trade
from offerstands.values import is_alike, is_integer, is_paper


def chooser_finding_holds(thing):
    """Whether any value is a finding of parts 1 to 4 that holds."""
    if not is_told(thing, dict(PARTS)):
        return False
    judge = JUDGING[thing[0]]
    return is_accepted(judge, thing[1:])


def is_told(thing, parts):
    """Whether any value is a tuple of one of some words and as many parts as go with it."""
    if not isinstance(thing, tuple) or len(thing) == 0 or not isinstance(thing[0], str):
        return False
    return thing[0] in parts and len(thing) == parts[thing[0]] + 1


def is_accepted(judge, parts):
    """Whether a function accepts the parts of a finding, of which some may be no valid arguments."""
    try:
        return judge(*parts)
    except OfferError:
        return False


def chooser_read(text):
    """The chooser with a text; raise BadText, or Against if it cannot be asked apart."""
    chooser = Chooser.read(text)
    require_apart(chooser)
    return chooser


def question_read(thing):
    """A question, with the choosers for their texts; raise BadQuestion or BadText for any other value."""
    if is_paper(thing, "picks", 2):
        return ("picks", Chooser.read(thing[1]))
    if is_paper(thing, "takes", 3):
        return ("takes", Chooser.read(thing[1]), thing[2])
    if is_paper(thing, "settled", 3) or is_paper(thing, "best", 3):
        return (thing[0], Chooser.read(thing[1]), Chooser.read(thing[2]))
    raise BadQuestion(thing)


def does_apart_hold(text, paper):
    """Whether a chooser can be asked apart, or not, as a paper tells."""
    return apart_holds(Chooser.read(text), paper)


def do_fewest_hold(text, paper):
    """Whether lists are fewest, as a paper tells."""
    return fewest_hold(chooser_read(text), paper)


def does_skyline_hold(text, trade, dated, told):
    """Whether a dated set has a skyline."""
    return is_alike(skyline(chooser_read(text), Trade.read(trade), dated), told)


def does_offer_hold(text, trade, dated, offer, paper):
    """Whether an offer that stands is guarded, or shown, as a paper tells."""
    return offer_holds(chooser_read(text), Trade.read(trade), dated, offer, paper)


def does_ever_hold(text, trade, dated, other, paper):
    """Whether two dated sets are ever the same, or not, as a paper tells."""
    return ever_holds(chooser_read(text), Trade.read(trade), dated, other, paper)


def does_one_hold(question, trade, dated, other, paper):
    """Whether two dated sets are one for a question, or not, as a paper tells."""
    return one_holds(question_read(question), Trade.read(trade), dated, other, paper)


def does_notebook_hold(question, trade, notebook, paper):
    """Whether a notebook tells a question, or not, as a paper tells."""
    return notebook_holds(question_read(question), Trade.read(trade), notebook, paper)


def does_shelf_hold(text, trade, calendar, worths, number, paper):
    """Whether a shelf is enough, or not, as a paper tells."""
    if not is_integer(number):
        return False
    return shelf_holds(chooser_read(text), Trade.read(trade), calendar, worths, number, paper)


PARTS = {"apart": 2, "fewest": 2, "skyline": 4, "offer": 5, "ever": 5, "one": 5, "notebook": 4, "shelf": 6}
JUDGING = {
    "apart": does_apart_hold, "fewest": do_fewest_hold, "skyline": does_skyline_hold, "offer": does_offer_hold,
    "ever": does_ever_hold, "one": does_one_hold, "notebook": does_notebook_hold, "shelf": does_shelf_hold,
}

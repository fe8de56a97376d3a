"""Summaries: parts of what stands that are enough for a question ([3.5])."""

from offerstands.choosers import is_within, parts_of
from offerstands.oneness import class_numbers
from offerstands.questions import require_asked
from offerstands.trades import is_dated, offers_of, require_dated


def is_summary(question, trade, dated, thing):
    """Whether any value is a part of a dated set that is a summary of it."""
    numbers = numbers_beside(question, trade, dated)
    if not is_dated(trade, thing) or not is_within(thing, dated):
        return False
    return numbers[thing] == numbers[dated]


def least_summaries(question, trade, dated):
    """All least summaries of a dated set, ascending."""
    numbers = numbers_beside(question, trade, dated)
    least = []
    # Shorter parts are ahead, so none that comes later lies within one that was found.
    for part in parts_of(dated):
        if numbers[part] == numbers[dated] and not any([is_within(found, part) for found in least]):
            least.append(part)
    return tuple(sorted(least))


def free_offers(question, trade, dated):
    """The set of the offers without each of which a dated set is a summary of itself."""
    numbers = numbers_beside(question, trade, dated)
    return tuple([
        offer for offer in offers_of(dated)
        if numbers[tuple([pair for pair in dated if pair[0] != offer])] == numbers[dated]
    ])


def numbers_beside(question, trade, dated):
    """For each dated set the number of its class; raise BadQuestion, OtherOffers or BadDated."""
    require_asked(question, trade)
    require_dated(trade, dated)
    return class_numbers(question, trade)
